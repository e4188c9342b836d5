import PyProof.Rows.All
import Wide.All
import OpenK.AllK
import Wide.FinOn
import HandS.ForMost
import HandS.Wide
import HandS.WideBits
import HandS.IsInst
import HandS.Walk
import HandS.Zip
import HandS.Style
import HandS.Star
import HandS.More
import HandS.TupAny
import HandS.Comp
import HandS.NoneIn
import HandS.TupSets
import HandS.Rev
import HandS.CallLocal
import HandS.Flow
import HandS.TryOnly
import KE.GoesMore
import PySem.Challenge.RW_scenetongue_k36_whole_leaves_turned
set_option Elab.async false
set_option linter.all false
set_option maxRecDepth 100000
set_option maxHeartbeats 4000000

namespace Sc
open PySem PySem.Spec PyProof.Rows L2

/-- the greatest common divisor with the sign of b -/
def sg (a b : Int) : Int := if b < 0 then -(Int.gcd a b : Int) else (Int.gcd a b : Int)
/-- the loop of frac between two turns -/
def GInv (a b x y : Int) : Prop := Int.gcd x y = Int.gcd a b ∧ ((0 < b ∧ 0 ≤ y ∧ y < x ∧ x ≤ b) ∨ (b < 0 ∧ y ≤ 0 ∧ x < y ∧ b ≤ x))
theorem gcd_step (x y : Int) : Int.gcd y (x.fmod y) = Int.gcd x y := by
  rw [Int.fmod_def, Int.mul_comm, Int.gcd_sub_mul_right_right, Int.gcd_comm]
theorem fmod_pos {x y : Int} (h : 0 < y) : 0 ≤ x.fmod y ∧ x.fmod y < y := ⟨Int.fmod_nonneg_of_pos x h, Int.fmod_lt_of_pos x h⟩
theorem fmod_neg {x y : Int} (h : y < 0) : x.fmod y ≤ 0 ∧ y < x.fmod y := by
  have h' : 0 < -y := by omega
  have e := Int.neg_fmod_neg (-x) (-y)
  rw [Int.neg_neg, Int.neg_neg] at e
  have h1 := Int.fmod_nonneg_of_pos (-x) h'
  have h2 := Int.fmod_lt_of_pos (-x) h'
  omega
theorem GInv.start {a b : Int} (hb : b ≠ 0) : GInv a b b (a.fmod b) := by
  refine ⟨gcd_step a b, ?_⟩
  by_cases hp : 0 < b
  · have := @fmod_pos a b hp
    exact .inl ⟨hp, by omega, by omega, Int.le_refl _⟩
  · have hn : b < 0 := by omega
    have := @fmod_neg a b hn
    exact .inr ⟨hn, by omega, by omega, Int.le_refl _⟩
theorem GInv.next {a b x y : Int} (h : GInv a b x y) (hy : y ≠ 0) : GInv a b y (x.fmod y) ∧ (x.fmod y).natAbs < y.natAbs := by
  obtain ⟨hg, hs⟩ := h
  rcases hs with ⟨h1, h2, h3, h4⟩ | ⟨h1, h2, h3, h4⟩
  · have f := @fmod_pos x y (by omega)
    exact ⟨⟨by rw [gcd_step, hg], .inl ⟨h1, by omega, by omega, by omega⟩⟩, by omega⟩
  · have f := @fmod_neg x y (by omega)
    exact ⟨⟨by rw [gcd_step, hg], .inr ⟨h1, by omega, by omega, by omega⟩⟩, by omega⟩
theorem GInv.fin {a b x : Int} (h : GInv a b x 0) : x = sg a b := by
  obtain ⟨hg, hs⟩ := h
  rw [Int.gcd_zero_right] at hg
  unfold sg
  rw [← hg]
  split <;> omega
theorem GInv.ne {a b x y : Int} (h : GInv a b x y) : x ≠ 0 ∧ x.natAbs ≤ b.natAbs := by
  obtain ⟨hg, hs⟩ := h
  omega
/-- the law's own: without signs -/
def HInv (a b x y : Int) : Prop := Int.gcd x y = Int.gcd a b ∧ 0 ≤ x ∧ 0 ≤ y
theorem HInv.next {a b x y : Int} (h : HInv a b x y) (hy : 0 < y) : HInv a b y (x.fmod y) ∧ (x.fmod y).natAbs < y.natAbs := by
  obtain ⟨hg, hx, _⟩ := h
  have f := @fmod_pos x y hy
  exact ⟨⟨by rw [gcd_step, hg], by omega, f.1⟩, by omega⟩
theorem HInv.fin {a b x y : Int} (h : HInv a b x y) (hy : ¬ 0 < y) : x = (Int.gcd a b : Int) := by
  obtain ⟨hg, hx, h3⟩ := h
  have e : y = 0 := by omega
  subst e
  rw [Int.gcd_zero_right] at hg
  omega
theorem gcd_abs (a b : Int) : Int.gcd (if a < 0 then -a else a) (if b < 0 then -b else b) = Int.gcd a b := by
  have h : ∀ z : Int, (if z < 0 then -z else z).natAbs = z.natAbs := fun z => by split <;> omega
  unfold Int.gcd
  rw [h, h]
theorem sg_ne {a b : Int} (hb : b ≠ 0) : sg a b ≠ 0 ∧ (sg a b).natAbs ≤ b.natAbs := by
  have h1 : 0 < Int.gcd a b := Int.gcd_pos_of_ne_zero_right a hb
  have h2 : Int.gcd a b ≤ b.natAbs := Nat.le_of_dvd (by omega) (Int.gcd_dvd_natAbs_right a b)
  unfold sg
  split <;> omega
theorem sg_num {a b : Int} (hb : b ≠ 0) : a.fdiv (sg a b) = (Rat.divInt a b).num := by
  rw [Rat.num_divInt, Int.gcd_comm]
  have d : ((Int.gcd a b : Nat) : Int) ∣ a := Int.gcd_dvd_left a b
  unfold sg
  by_cases h : b < 0
  · rw [if_pos h, Int.sign_eq_neg_one_of_neg h, Int.fdiv_eq_ediv_of_dvd (Int.neg_dvd.mpr d), Int.ediv_neg, Int.neg_mul, Int.one_mul, Int.neg_ediv_of_dvd d]
  · rw [if_neg h, Int.fdiv_eq_ediv_of_dvd d]
    rw [Int.sign_eq_one_of_pos (by omega), Int.one_mul]
theorem sg_den {a b : Int} (hb : b ≠ 0) : b.fdiv (sg a b) = ((Rat.divInt a b).den : Int) := by
  rw [Rat.den_divInt, if_neg hb, Int.gcd_comm b a]
  have d : ((Int.gcd a b : Nat) : Int) ∣ b := Int.gcd_dvd_right a b
  unfold sg
  by_cases h : b < 0
  · rw [if_pos h, Int.fdiv_eq_ediv_of_dvd (Int.neg_dvd.mpr d), Int.ediv_neg, ← Int.neg_ediv_of_dvd d, Int.natCast_ediv]
    congr 1
    omega
  · rw [if_neg h, Int.fdiv_eq_ediv_of_dvd d, Int.natCast_ediv]
    congr 1
    omega

/-! ### sizes -/
def Bt (n : Nat) (x : Int) : Prop := x.natAbs < 2 ^ n
theorem Bt.mono {m n : Nat} {x : Int} (h : Bt m x) (hn : m ≤ n) : Bt n x := Nat.lt_of_lt_of_le h (Nat.pow_le_pow_right (by decide) hn)
theorem Bt.le {n : Nat} {x y : Int} (hy : Bt n y) (h : x.natAbs ≤ y.natAbs) : Bt n x := Nat.lt_of_le_of_lt h hy
theorem Bt.mul {m n : Nat} {x y : Int} (hx : Bt m x) (hy : Bt n y) : Bt (m + n) (x * y) := by
  unfold Bt at *
  rw [Int.natAbs_mul, Nat.pow_add]
  exact Nat.mul_lt_mul'' hx hy
theorem Bt.add {n : Nat} {x y : Int} (hx : Bt n x) (hy : Bt n y) : Bt (n + 1) (x + y) := by
  unfold Bt at *
  rw [Nat.pow_succ]
  omega
theorem Bt.neg {n : Nat} {x : Int} (hx : Bt n x) : Bt n (-x) := by
  unfold Bt at *
  rw [Int.natAbs_neg]
  exact hx
theorem Bt.sub {n : Nat} {x y : Int} (hx : Bt n x) (hy : Bt n y) : Bt (n + 1) (x - y) := by
  unfold Bt at *
  rw [Nat.pow_succ]
  omega
/-- a fraction's two parts -/
def Rb (n : Nat) (q : Rat) : Prop := Bt n q.num ∧ Bt n (q.den : Int)
theorem Rb.mono {m n : Nat} {q : Rat} (h : Rb m q) (hn : m ≤ n) : Rb n q := ⟨h.1.mono hn, h.2.mono hn⟩
theorem den_ne (q : Rat) : ((q.den : Nat) : Int) ≠ 0 := by
  have := q.den_pos
  omega
theorem rb_div {n : Nat} {a b : Int} (hb : b ≠ 0) (h1 : Bt n a) (h2 : Bt n b) : Rb n (Rat.divInt a b) := by
  have hs := (sg_ne (a := a) hb).1
  have e1 : a.fdiv (sg a b) * sg a b = a := Int.fdiv_mul_cancel (by
    unfold sg
    split
    · exact Int.neg_dvd.mpr (Int.gcd_dvd_left a b)
    · exact Int.gcd_dvd_left a b)
  have e2 : b.fdiv (sg a b) * sg a b = b := Int.fdiv_mul_cancel (by
    unfold sg
    split
    · exact Int.neg_dvd.mpr (Int.gcd_dvd_right a b)
    · exact Int.gcd_dvd_right a b)
  have k : ∀ x y : Int, x * sg a b = y → x.natAbs ≤ y.natAbs := fun x y e => by
    rw [← e, Int.natAbs_mul]
    exact Nat.le_mul_of_pos_right _ (by omega)
  rw [sg_num hb] at e1
  rw [sg_den hb] at e2
  exact ⟨h1.le (k _ _ e1), h2.le (k _ _ e2)⟩
theorem rat_sum (q r : Rat) : Rat.divInt (q.num * r.den + r.num * q.den) (q.den * r.den) = q + r := by
  rw [← Rat.divInt_add_divInt _ _ (den_ne q) (den_ne r), Rat.num_divInt_den, Rat.num_divInt_den]
theorem rat_less (q r : Rat) : Rat.divInt (q.num * r.den - r.num * q.den) (q.den * r.den) = q - r := by
  rw [← Rat.divInt_sub_divInt _ _ (den_ne q) (den_ne r), Rat.num_divInt_den, Rat.num_divInt_den]
theorem rat_prod (q r : Rat) : Rat.divInt (q.num * r.num) (q.den * r.den) = q * r := by
  rw [← Rat.divInt_mul_divInt, Rat.num_divInt_den, Rat.num_divInt_den]
theorem rat_quot (q r : Rat) : Rat.divInt (q.num * r.den) (q.den * r.num) = q / r := by
  rw [Rat.div_def, Rat.inv_def, ← Rat.divInt_mul_divInt, Rat.num_divInt_den]
theorem Rb.add {m n : Nat} {q r : Rat} (hq : Rb m q) (hr : Rb n r) : Rb (m + n + 1) (q + r) := by
  rw [← rat_sum]
  exact rb_div (Int.mul_ne_zero (den_ne q) (den_ne r)) ((hq.1.mul hr.2).add ((hr.1.mul hq.2).mono (by omega))) ((hq.2.mul hr.2).mono (by omega))
theorem Rb.sub {m n : Nat} {q r : Rat} (hq : Rb m q) (hr : Rb n r) : Rb (m + n + 1) (q - r) := by
  rw [← rat_less]
  exact rb_div (Int.mul_ne_zero (den_ne q) (den_ne r)) ((hq.1.mul hr.2).sub ((hr.1.mul hq.2).mono (by omega))) ((hq.2.mul hr.2).mono (by omega))
theorem Rb.mul {m n : Nat} {q r : Rat} (hq : Rb m q) (hr : Rb n r) : Rb (m + n) (q * r) := by
  rw [← rat_prod]
  exact rb_div (Int.mul_ne_zero (den_ne q) (den_ne r)) (hq.1.mul hr.1) (hq.2.mul hr.2)
theorem num_ne {r : Rat} (h : r ≠ 0) : r.num ≠ 0 := fun e => h (Rat.num_eq_zero.mp e)
theorem Rb.div {m n : Nat} {q r : Rat} (hq : Rb m q) (hr : Rb n r) (h : r ≠ 0) : Rb (m + n) (q / r) := by
  rw [← rat_quot]
  exact rb_div (Int.mul_ne_zero (den_ne q) (num_ne h)) (hq.1.mul hr.2) (hq.2.mul hr.1)

/-! ### rules of numbers -/
section
variable {X : Cx}
theorem op_fdX : OpR X (binaryOp .FloorDiv) (rI (fun _ j => j ≠ 0 ∧ Bt 9000 j) fun i j => .int (i.fdiv j)) := opI fun _ _ _ _ _ _ _ hc q =>
  floordiv_int hc.1 q (.inl (PyProof.noPylong_of_log2 (PySem.Flt.log2_lt_of (by decide) hc.2)))
end

/-! ### enumerate of a tuple -/
section
open Sem (wp)
set_option maxHeartbeats 1000000 in
theorem meets_enumT {v : Value} {o : Obj} {H : Heap → Prop} (B : Begins v o H) :
    Meets (Builtin.«enumerate.__new__» ⟨[.type "enumerate", v], []⟩) (fun _ R s => H s.heap ∧
      R (.ok (.ret (.ref (s.heap.push o).objs.size))) { s with heap := (s.heap.push o).push { cls := .type "enumerate", data := .fields #[.none, .bool false, .ref s.heap.objs.size, rawInt 0, .none, .none] } }) :=
  .of_wp fun prog w A R s h => by
    obtain ⟨hp, g, d, tk, os⟩ := s; obtain ⟨h1, h⟩ := h
    have hsub := sub_enumerate
    have q1 : ∀ {A' : Around} {E : Value → Shared → Prop} {Q : Value → Shared → Prop}, Q (.ref hp.objs.size) ⟨hp.push o, g, d, tk, os⟩ → wpAny (model prog w) A' (pyIter v) Q E ⟨hp, g, d, tk, os⟩ :=
      fun q => B.iter prog w _ _ ⟨hp, g, d, tk, os⟩ _ h1 q
    wp_walk using q1
    refine wpAny_stack_any fun st => wpAny_pure ?_
    split
    · rename_i c _ _ _ _ _
      cases (c == Value.type "enumerate")
      · wp_walk using q1
        exact ⟨_, rfl, h⟩
      · wp_walk using q1
        exact ⟨_, rfl, h⟩
    · wp_walk using q1
      exact ⟨_, rfl, h⟩
theorem call_enumT {prog : Program} {w : World} {A : Around} {E : Value → Shared → Prop} {s : Shared} {t : Addr} {items : Array Value} {Q : Value → Shared → Prop} (ht : s.heap.IsTuple t items)
    (h : ∀ h', IsEnum h' (s.heap.objs.size + 1) s.heap.objs.size 0 .none → h'.IsTupleIter s.heap.objs.size t 0 → h'.objs.size = s.heap.objs.size + 2 →
      (∀ b o, s.heap.get? b = some o → h'.get? b = some o) → Q (.ref (s.heap.objs.size + 1)) { s with heap := h' }) :
    wpAny (model prog w) A (call (.type "enumerate") [.ref t]) Q E s := by
  refine callType_new F.called_enumerate (by decide) (F.typeCall_enumerate_1 _) (F.newCall_enumerate_1 _) (fun obj => F.args_object_init_2 obj _) F.entry_enumerate_new
    (meets_enumT (begins_tuple t items)) ⟨ht, ?_⟩
  have hz : (s.heap.push { cls := .type "tuple_iterator", data := .fields #[.ref t, .int 0 0] }).objs.size = s.heap.objs.size + 1 := Heap.size_push ..
  show _ ∧ _
  rw [hz]
  have he : IsEnum ((s.heap.push { cls := .type "tuple_iterator", data := .fields #[.ref t, .int 0 0] }).push
      { cls := .type "enumerate", data := .fields #[.none, .bool false, .ref s.heap.objs.size, rawInt 0, .none, .none] }) (s.heap.objs.size + 1) s.heap.objs.size 0 .none := by
    have := Heap.get?_push_size (s.heap.push { cls := .type "tuple_iterator", data := .fields #[.ref t, .int 0 0] })
      (o := { cls := .type "enumerate", data := .fields #[.none, .bool false, .ref s.heap.objs.size, rawInt 0, .none, .none] }) rfl
    rw [hz] at this; exact this
  refine ⟨⟨_, he, rfl⟩, h _ he ⟨_, Heap.get?_push_of_some _ (Heap.get?_push_size _ rfl), rfl, rfl⟩ (by rw [Heap.size_push, hz]) fun b o x => Heap.get?_push_of_some _ (Heap.get?_push_of_some _ x)⟩
end
def IteT (K : PySem.W.Frag) (a : Addr) : It :=
  ⟨fun i H => ∃ (xs : List V) (x : V), SqT K H a xs ∧ xs[i]? = some x, fun i H v H' => ∃ T x, v = .ref T ∧ H T = none ∧ H' = upd H T (.tup [.int (i : Nat), x]) ∧ ∀ xs, SqT K H a xs → xs[i]? = some x, fun i H => ∃ xs : List V, SqT K H a xs ∧ xs.length = i⟩
theorem turn_enumT {P : Program} {w : World} {K : PySem.W.Frag} {elts : List Expr} {kk : Nat} {tpos : Pos} (a e it : Addr) (hae : a ≠ e) (hai : a ≠ it) :
    Turn P w K (.Tuple elts kk tpos) (IteT K a) [e, it] e (fun i h => (∃ old, IsEnum h e it ((i : Nat) : Int) old) ∧ h.IsTupleIter it a i ∧ e ≠ it) where
  mem := by simp
  obj := fun i h st b hb => by
    obtain ⟨⟨old, he⟩, ⟨o, ho, hc, hd⟩, _⟩ := st
    have e' : b = e ∨ b = it := by simpa using hb
    rcases e' with z | z
    · rw [z]; exact ⟨_, he, fun v q => nomatch q⟩
    · rw [z]; exact ⟨o, ho, fun v q => by rw [hd] at q; cases q⟩
  keep := fun i h h' st k => let ⟨⟨old, he⟩, hi, hne⟩ := st; ⟨⟨old, k e (by simp) _ he⟩, hi.at fun o q => k it (by simp) o q, hne⟩
  item := by
    intro X hP hw hK hc i pins s σ H E I hf st hg
    subst hP hw hK
    obtain ⟨⟨old, he⟩, hit, hne⟩ := st
    obtain ⟨xs, x, hq, hx⟩ := hg
    obtain ⟨its, rv, p, hz⟩ := I.tuple hq
    obtain ⟨u, hu, ru⟩ := rv.get hx
    have hel : e < s.heap.objs.size := Heap.lt_size he
    have hil : it < s.heap.objs.size := by obtain ⟨_, q, _⟩ := hit; exact Heap.lt_size q
    have hlt : i < its.toArray.size := by
      have := (List.getElem?_eq_some_iff.mp hu).1
      simpa using this
    refine wpAny_pyNext_enum_itemD (Draws.tuple (prog := X.prog) (w := X.w) (A := X.A.in1) (I.ok.hd hc) it a hai its.toArray) he ⟨hit, p⟩ hlt hne (by simp [hne, Ne.symm hae]) fun x' h' tk hP ho hst hT hsz hk => ?_
    have ex : x' = u := by
      have : its[i]? = some x' := by simpa using hP
      rw [hu] at this
      exact (Option.some.inj this).symm
    subst ex
    refine ⟨_, rfl, wpAny_letOwnedTupleGo_enum (s := { s with heap := h', toks := tk + 1 }) ho fun h'' he' sb => ?_⟩
    have hT2 : h''.get? s.heap.objs.size = some { cls := .type "tuple", data := .seq #[.int i tk, x'] } := (sb.2 _ (Nat.ne_of_gt hel)).trans hT
    have new : ObjOk X.prog X.w (upd H s.heap.objs.size (.tup [.int (i : Nat), x])) h'' s.heap.objs.size (.tup [.int (i : Nat), x]) :=
      ⟨by show 2 ≤ sizeLine; decide, [.int i tk, x'], .cons ⟨_, rfl⟩ (.cons ru .nil), ⟨_, hT2, rfl, _, rfl⟩⟩
    have I1 : Inv X pins σ (upd H s.heap.objs.size (.tup [.int (i : Nat), x])) { s with heap := h'', toks := tk + 1 } :=
      I.turnedNew (ch := [e, it]) (fun b ob hb q => (sb.2 b (fun z => hb (by simp [z]))).trans (hk b ob (fun z => hb (by simp [z])) (fun z => hb (by simp [z])) q)) hf (Nat.le_refl _) new
    refine ⟨.ref s.heap.objs.size, _, I1, rfl, ⟨_, x, rfl, I.hok.fresh (Nat.le_refl _), rfl, fun ys hy => by rw [I.tuple_inj hy hq]; exact hx⟩, ⟨⟨x', ?_⟩, hst.1.at fun o q => (sb.2 it (Ne.symm hne)).trans q, hne⟩, fun b hb => ?_⟩
    · have e1 : ((i + 1 : Nat) : Int) = (i : Int) + 1 := by omega
      rw [e1]; exact he'
    · have hb' : b < s.heap.objs.size := by
        have e' : b = e ∨ b = it := by simpa using hb
        rcases e' with z | z
        · rw [z]; exact hel
        · rw [z]; exact hil
      rw [upd_ne (Nat.ne_of_lt hb')]
      exact (hf b hb).1
  done := by
    intro X hP hw hK hc i pins s σ H E I hf st hg
    subst hP hw hK
    obtain ⟨⟨old, he⟩, hit, hne⟩ := st
    obtain ⟨xs, hq, hx⟩ := hg
    obtain ⟨its, rv, p, hz⟩ := I.tuple hq
    obtain ⟨f0, f1, f2, f3, f4, f5⟩ := hf it (by simp)
    have hl := rv.length
    have hi : i = its.toArray.size := by
      have : its.toArray.size = its.length := by simp
      omega
    have hit' : s.heap.IsTupleIter it a its.toArray.size := hi ▸ hit
    exact wpAny_pyNext_enum_endD (Draws.tuple (prog := X.prog) (w := X.w) (A := X.A.in1) (I.ok.hd hc) it a hai its.toArray) he ⟨hit', p⟩ fun h' eb => ⟨rfl, I.turned (t' := s.toks) (fun b o hb q => eb b o hb q) f0 f1 f3 f4 f5⟩
  self := fun A i s Q E st h => let ⟨⟨_, he⟩, _⟩ := st; wpAny_pyIter_enum he h
def iEnumA (K : PySem.W.Frag) (ta : TA) : TI := fun σ H R => ta σ H fun vs H1 => ∃ a xs, vs = [.ref a] ∧ ((SqL K H1 a xs ∧ R (Ite K a) H1) ∨ (SqT K H1 a xs ∧ R (IteT K a) H1))
theorem pi_enumA {X : Cx} {e : Expr} {ta : TA} {p pos tpos : Pos} {elts : List Expr} {kk : Nat} (hg : Gl X "enumerate") (hm : X.mg "enumerate" = none) (ha : PA X [e] ta) (hs : starEach [e] X.env = [(false, eval e X.env)] := by rfl) :
    PI X (.Tuple elts kk tpos) (.Call (.Name "enumerate" p) [e] [] pos) (iEnumA X.K ta) := by
  refine ⟨fun pins s σ H R I h => ?_⟩
  refine Call_ (ld_blt I hg hm boot_enumerate (PyProof.Rows.callWith_type1 (thn (ha.run pos pins s σ H _ I h) fun us s1 ⟨vs, H1, I1, r1, q1⟩ => ?_) hs rfl))
  obtain ⟨a, xs, ex, q1⟩ := q1
  subst ex
  cases r1 with
  | cons r rr =>
    cases rr
    cases r
    have fresh : ∀ b, b ∈ [s1.heap.objs.size + 1, s1.heap.objs.size] → FpOk X pins H1 b := fun b hb => by
      have e' : b = s1.heap.objs.size + 1 ∨ b = s1.heap.objs.size := by simpa using hb
      have hle : s1.heap.objs.size ≤ b := by
        rcases e' with z | z
        · rw [z]; exact Nat.le_add_right _ _
        · rw [z]; exact Nat.le_refl _
      exact I1.fpOk hle (I1.hok.fresh hle)
    rcases q1 with ⟨hq, q⟩ | ⟨hq, q⟩
    · obtain ⟨its, rv, p', hz⟩ := I1.list hq
      refine call_enumerate_list p'.isList fun h' he hit hsz hk => wpAny_pyIter_enum he ?_
      have I2 : Inv X pins σ H1 { s1 with heap := h' } := I1.kept (t' := s1.toks) hk
      exact ⟨s1.heap.objs.size + 1, [s1.heap.objs.size + 1, s1.heap.objs.size], _, _, H1, rfl, I2, turn_enum a (s1.heap.objs.size + 1) s1.heap.objs.size, ⟨⟨.none, he⟩, hit, Nat.succ_ne_self _⟩, fresh, q⟩
    · obtain ⟨its, rv, p', hz⟩ := I1.tuple hq
      obtain ⟨o1, ho1, _⟩ := id p'
      have hal : a < s1.heap.objs.size := Heap.lt_size ho1
      refine call_enumT (show s1.heap.IsTuple a its.toArray from p') fun h' he hit hsz hk => wpAny_pyIter_enum he ?_
      have I2 : Inv X pins σ H1 { s1 with heap := h' } := I1.kept (t' := s1.toks) hk
      exact ⟨s1.heap.objs.size + 1, [s1.heap.objs.size + 1, s1.heap.objs.size], _, _, H1, rfl, I2, turn_enumT a (s1.heap.objs.size + 1) s1.heap.objs.size (Nat.ne_of_lt (Nat.lt_succ_of_lt hal)) (Nat.ne_of_lt hal), ⟨⟨.none, he⟩, hit, Nat.succ_ne_self _⟩, fresh, q⟩

/-! ### zip of any number of lists and tuples -/
def IsIt (h : Heap) (t : Bool) (it l : Addr) (i : Nat) : Prop := if t = true then h.IsTupleIter it l i else h.IsListIter it l i
def IsSq (h : Heap) (t : Bool) (l : Addr) (xs : Array Value) : Prop := if t = true then h.IsTuple l xs else h.IsList l xs
theorem IsIt.at {h h' : Heap} {t : Bool} {it l : Addr} {i : Nat} (x : IsIt h t it l i) (e : ∀ o, h.get? it = some o → h'.get? it = some o) : IsIt h' t it l i := by
  cases t
  · exact Heap.IsListIter.at x e
  · exact Heap.IsTupleIter.at x e
theorem IsSq.at {h h' : Heap} {t : Bool} {l : Addr} {xs : Array Value} (x : IsSq h t l xs) (e : ∀ o, h.get? l = some o → h'.get? l = some o) : IsSq h' t l xs := by
  cases t
  · obtain ⟨o, ho, r⟩ := x
    exact ⟨o, e _ ho, r⟩
  · obtain ⟨o, ho, r⟩ := x
    exact ⟨o, e _ ho, r⟩
theorem IsSq.there {h : Heap} {t : Bool} {l : Addr} {xs : Array Value} (x : IsSq h t l xs) : ∃ o, h.get? l = some o := by
  cases t
  · obtain ⟨o, ho, r⟩ := x
    exact ⟨o, ho⟩
  · obtain ⟨o, ho, r⟩ := x
    exact ⟨o, ho⟩
theorem IsIt.there {h : Heap} {t : Bool} {it l : Addr} {i : Nat} (x : IsIt h t it l i) : ∃ o, h.get? it = some o ∧ ∀ v, o.data ≠ .cell v := by
  cases t
  · obtain ⟨o, ho, _, d⟩ := x
    exact ⟨o, ho, fun v q => by rw [d] at q; cases q⟩
  · obtain ⟨o, ho, _, d⟩ := x
    exact ⟨o, ho, fun v q => by rw [d] at q; cases q⟩
section
variable {prog : Program} {w : World} {A : Around} {E : Value → Shared → Prop} {s : Shared}
theorem nextIt_item {t : Bool} {it l : Addr} {i : Nat} {xs : Array Value} {x : Value} {Q : Value → Shared → Prop} (hit : IsIt s.heap t it l i) (hl : IsSq s.heap t l xs) (hx : xs[i]? = some x)
    (hQ : ∀ h', IsIt h' t it l (i + 1) → Heap.SameBut it s.heap h' → Q x { s with heap := h' }) : wpAny (model prog w) A (Builtin.SmallTypes.nextOf (.ref it)) Q E s := by
  cases t
  · exact wpAny_nextOf_list_item hit hl hx hQ
  · exact RZ.nextOf_tuple_item hit hl hx hQ
theorem nextIt_end {t : Bool} {it l : Addr} {i : Nat} {xs : Array Value} {Q : Value → Shared → Prop} (hh : A.handled = none) (hit : IsIt s.heap t it l i) (hl : IsSq s.heap t l xs) (hx : xs[i]? = none)
    (hE : ∀ h' e, Heap.ExtBut it s.heap h' → (∃ o, h'.get? e = some o ∧ o.cls = .type "StopIteration") → E (.ref e) { s with heap := h' }) : wpAny (model prog w) A (Builtin.SmallTypes.nextOf (.ref it)) Q E s := by
  cases t
  · exact wpAny_nextOf_list_end hh hit hl hx hE
  · exact RZ.nextOf_tuple_end hh hit hl hx hE
end
structure Zs where
  t : Bool
  it : Addr
  l : Addr
abbrev IsTV (h : Heap) (T : Addr) (vs : Array Value) : Prop := h.get? T = some { cls := .type "tuple", data := .seq vs }
def zits (zs : List Zs) : List Addr := zs.map (·.it)
structure ZApart (z TI TO : Addr) (zs : List Zs) : Prop where
  nd : (z :: TI :: TO :: zits zs).Nodup
  ls : ∀ c ∈ zs, c.l ∉ z :: TI :: TO :: zits zs
section
variable {z TI TO : Addr} {zs : List Zs}
theorem ZApart.TIz (D : ZApart z TI TO zs) : TI ≠ z := fun e => (List.nodup_cons.mp D.nd).1 (by rw [← e]; exact List.mem_cons_self)
theorem ZApart.TOz (D : ZApart z TI TO zs) : TO ≠ z := fun e => (List.nodup_cons.mp D.nd).1 (by rw [← e]; exact List.mem_cons_of_mem _ List.mem_cons_self)
theorem ZApart.TITO (D : ZApart z TI TO zs) : TI ≠ TO := fun e => (List.nodup_cons.mp (List.nodup_cons.mp D.nd).2).1 (by rw [e]; exact List.mem_cons_self)
theorem mem_zits {c : Zs} (h : c ∈ zs) : c.it ∈ zits zs := List.mem_map.mpr ⟨c, h, rfl⟩
theorem ZApart.iz (D : ZApart z TI TO zs) {c : Zs} (h : c ∈ zs) : c.it ≠ z := fun e => (List.nodup_cons.mp D.nd).1 (by rw [← e]; exact List.mem_cons_of_mem _ (List.mem_cons_of_mem _ (mem_zits h)))
theorem ZApart.iTI (D : ZApart z TI TO zs) {c : Zs} (h : c ∈ zs) : c.it ≠ TI := fun e => (List.nodup_cons.mp (List.nodup_cons.mp D.nd).2).1 (by rw [← e]; exact List.mem_cons_of_mem _ (mem_zits h))
theorem ZApart.iTO (D : ZApart z TI TO zs) {c : Zs} (h : c ∈ zs) : c.it ≠ TO := fun e => (List.nodup_cons.mp (List.nodup_cons.mp (List.nodup_cons.mp D.nd).2).2).1 (by rw [← e]; exact mem_zits h)
theorem ZApart.lz (D : ZApart z TI TO zs) {c : Zs} (h : c ∈ zs) : c.l ≠ z := fun e => D.ls c h (by rw [e]; exact List.mem_cons_self)
theorem ZApart.lTO (D : ZApart z TI TO zs) {c : Zs} (h : c ∈ zs) : c.l ≠ TO := fun e => D.ls c h (by rw [e]; exact List.mem_cons_of_mem _ (List.mem_cons_of_mem _ List.mem_cons_self))
theorem ZApart.li (D : ZApart z TI TO zs) {c d : Zs} (h : c ∈ zs) (k : d ∈ zs) : c.l ≠ d.it := fun e => D.ls c h (by rw [e]; exact List.mem_cons_of_mem _ (List.mem_cons_of_mem _ (List.mem_cons_of_mem _ (mem_zits k))))
theorem ZApart.ii (D : ZApart z TI TO zs) {i j : Nat} {c d : Zs} (h : zs[i]? = some c) (k : zs[j]? = some d) (hn : i ≠ j) : c.it ≠ d.it := fun e => by
  have n : (zits zs).Nodup := (List.nodup_cons.mp (List.nodup_cons.mp (List.nodup_cons.mp D.nd).2).2).2
  have a : (zits zs)[i]? = some c.it := by rw [zits, List.getElem?_map, h]; rfl
  have b : (zits zs)[j]? = some d.it := by rw [zits, List.getElem?_map, k]; rfl
  exact hn ((List.getElem?_inj (List.getElem?_eq_some_iff.mp a).1 n).mp (by rw [a, b, e]))
/-- the first j of them have gone on -/
structure ZSt (h0 : Heap) (z TI TO : Addr) (zs : List Zs) (k : Nat) (vs : List Value) (old : Array Value) (j : Nat) (h : Heap) : Prop where
  zp : IsZip h z TI TO .ellipsis
  out : ∃ cur : Array Value, IsTV h TO cur ∧ cur.size = zs.length ∧ ∀ m, m < j → cur[m]? = vs[m]?
  its : ∀ m c, zs[m]? = some c → IsIt h c.t c.it c.l (if m < j then k + 1 else k)
  keep : ∀ c o, c ≠ z → c ≠ TO → c ∉ zits zs → h0.get? c = some o → h.get? c = some o
  size : h.objs.size = h0.objs.size
variable {prog : Program} {w : World} {A : Around} {E : Value → Shared → Prop} {s : Shared}
theorem zipN_next_item {k : Nat} {vs : List Value} {old : Array Value} {Q : Value → Shared → Prop} (D : ZApart z TI TO zs) (hn : zs ≠ []) (hz : IsZip s.heap z TI TO .none) (hTI : IsTV s.heap TI (zs.map fun c => Value.ref c.it).toArray) (hTO : IsTV s.heap TO old) (hold : old.size = zs.length) (hln : zs.length ≤ 1000)
    (h1 : ∀ c ∈ zs, IsIt s.heap c.t c.it c.l k) (hlen : vs.length = zs.length) (h2 : ∀ (m : Nat) (c : Zs) (v : Value), zs[m]? = some c → vs[m]? = some v → ∃ xs, IsSq s.heap c.t c.l xs ∧ xs[k]? = some v)
    (hQ : ∀ h', IsZip h' z TI TO (rawInt s.heap.objs.size) → IsTV h' TO vs.toArray → (∀ c ∈ zs, IsIt h' c.t c.it c.l (k + 1)) → IsTV h' s.heap.objs.size vs.toArray → h'.objs.size = s.heap.objs.size + 1 →
      (∀ c o, c ≠ z → c ≠ TO → c ∉ zits zs → s.heap.get? c = some o → h'.get? c = some o) → Q (.ref s.heap.objs.size) { s with heap := h' }) :
    wpAny (model prog w) A (Builtin.«zip.__next__» ⟨[.ref z], []⟩) (fun fin s' => ∃ v, fin = .done (.ret v) ∧ Q v s') E s := by
  show wpAny _ _ (field (.ref z) 2 >>= _) _ _ _
  refine wpAny_bind (wpAny_field hz rfl (x := .bool false) rfl ?_)
  show wpAny _ _ (field (.ref z) 3 >>= _) _ _ _
  refine wpAny_bind (wpAny_field hz rfl (x := .ref TI) rfl ?_)
  refine wpAny_bind (wpAny_seqItems hTI rfl ?_)
  have hne : (zs.map fun c => Value.ref c.it).toArray.isEmpty = false := by
    cases zs with
    | nil => exact absurd rfl hn
    | cons a l => rfl
  simp only [hne, Bool.false_eq_true, if_false]
  show wpAny _ _ (Builtin.SmallTypes.ownedTupleIsFree (.ref z) >>= _) _ _ _
  refine wpAny_bind ?_
  unfold Builtin.SmallTypes.ownedTupleIsFree
  refine wpAny_bind (wpAny_field hz rfl (x := .none) rfl (wpAny_pure ?_))
  simp only [if_true]
  refine wpAny_bind (wpAny_rule ?_)
  refine wpAny_bind (wpAny_field hz rfl (x := .ref TO) rfl ?_)
  refine wpAny_bind (wpAny_setField_rec hz (by simp) fun h₁ hz₁ hs₁ => ?_)
  replace hz₁ : IsZip h₁ z TI TO .ellipsis := hz₁
  refine wpAny_bind (wpAny_forIn_list _ (fun rest b s' => b.1 = none ∧ ∃ j h, j ≤ zs.length ∧ rest = ((zs.map fun c => Value.ref c.it).zipIdx).drop j ∧ s' = { s with heap := h } ∧ ZSt s.heap z TI TO zs k vs old j h) _ ?_ ?_ _ _ ?_)
  · rintro x rest ⟨b1, b2⟩ s' ⟨hb, j, h, hj, hrest, rfl, st⟩
    simp only at hb
    subst hb
    have hlt : j < ((zs.map fun c => Value.ref c.it).zipIdx).length := by
      apply Classical.byContradiction
      intro q
      rw [List.drop_eq_nil_of_le (by omega)] at hrest
      cases hrest
    rw [List.drop_eq_getElem_cons hlt] at hrest
    have hjz : j < zs.length := by simpa using hlt
    have hc : zs[j]? = some zs[j] := List.getElem?_eq_getElem hjz
    have hcm : zs[j] ∈ zs := List.getElem_mem hjz
    obtain ⟨hx, hrest'⟩ := List.cons.inj hrest
    clear hrest
    simp only [List.getElem_zipIdx, List.getElem_map, Nat.zero_add] at hx
    subst hx
    generalize hcc : zs[j] = c at *
    have hv : vs[j]? = some vs[j] := List.getElem?_eq_getElem (by omega)
    generalize vs[j] = v at *
    obtain ⟨xs, hsq, hxk⟩ := h2 j c v hc hv
    have hit := st.its j c hc
    rw [if_neg (Nat.lt_irrefl _)] at hit
    have hsq' : IsSq h c.t c.l xs := hsq.at fun o e => st.keep _ o (D.lz hcm) (D.lTO hcm) (fun q => by
      obtain ⟨d, hd, e⟩ := List.mem_map.mp q
      exact D.li hcm hd e.symm) e
    obtain ⟨cur, hcur, hcs, hcv⟩ := st.out
    refine wpAny_bind (wpAny_onRaise ?_)
    show wpAny _ _ (Builtin.SmallTypes.nextOf (.ref c.it) >>= _) _ _ _
    refine wpAny_bind (nextIt_item (s := { s with heap := h }) hit hsq' hxk fun h₂ hi₂ hs₂ => wpAny_pure ?_)
    have hTO₂ : IsTV h₂ TO cur := hs₂.extBut _ _ (D.iTO hcm).symm hcur
    refine wpAny_bind (wpAny_seqItems hTO₂ rfl ?_)
    refine wpAny_bind (wpAny_updateSeq (s := { s with heap := h₂ }) hTO₂ rfl ?_ (by rw [hcs]; exact Nat.le_trans hln (by decide)) (by
      rw [Array.size_setIfInBounds, hcs]
      exact Nat.le_trans hln (by decide)))
    have hs₃ : Heap.SameBut TO h₂ (h₂.update TO (Obj.mapSeq fun x => x.setIfInBounds j v)) := Heap.SameBut.update ..
    have hTO₃ : IsTV (h₂.update TO (Obj.mapSeq fun x => x.setIfInBounds j v)) TO (cur.setIfInBounds j v) := by
      show Heap.get? _ _ = _
      rw [Heap.get?_update_self _ hTO₂ rfl]
      simp [Obj.mapSeq]
    generalize h₂.update TO (Obj.mapSeq fun x => x.setIfInBounds j v) = h₃ at *
    refine wpAny_bind (wpAny_letGo (wpAny_pure ⟨rfl, j + 1, h₃, by omega, hrest', rfl, ?_⟩))
    refine ⟨hs₃.extBut _ _ D.TOz.symm (hs₂.extBut _ _ (D.iz hcm).symm st.zp), ⟨_, hTO₃, by rw [Array.size_setIfInBounds, hcs], fun m hm => ?_⟩, fun m d hd => ?_, fun a o n1 n2 n3 e => ?_, ?_⟩
    · by_cases e : m = j
      · subst e
        rw [hv, Array.getElem?_setIfInBounds_self_of_lt (by omega)]
      · rw [Array.getElem?_setIfInBounds_ne (by omega)]
        exact hcv m (by omega)
    · have hdm : d ∈ zs := List.mem_of_getElem? hd
      by_cases e : m = j
      · subst e
        rw [hc] at hd
        cases hd
        rw [if_pos (by omega)]
        exact hi₂.at fun o q => hs₃.extBut _ _ (D.iTO hcm) q
      · have := st.its m d hd
        have e2 : (if m < j + 1 then k + 1 else k) = if m < j then k + 1 else k := by
          by_cases q : m < j
          · rw [if_pos q, if_pos (by omega)]
          · rw [if_neg q, if_neg (by omega)]
        rw [e2]
        exact this.at fun o q => hs₃.extBut _ _ (D.iTO hdm) (hs₂.extBut _ _ (D.ii hd hc e) q)
    · exact hs₃.extBut _ _ n2 (hs₂.extBut _ _ (fun q => n3 (by rw [q]; exact mem_zits hcm)) (st.keep a o n1 n2 n3 e))
    · rw [hs₃.1, hs₂.1]
      exact st.size
  · rintro ⟨b1, b2⟩ s' ⟨hb, j, h, hj, hrest, rfl, st⟩
    simp only at hb
    subst hb
    have hjz : j = zs.length := by
      have := congrArg List.length hrest
      simp at this
      omega
    subst hjz
    obtain ⟨cur, hcur, hcs, hcv⟩ := st.out
    have hce : cur = vs.toArray := by
      apply Array.ext_getElem?
      intro m
      by_cases q : m < zs.length
      · rw [hcv m q]
        simp
      · rw [Array.getElem?_eq_none (by omega), Array.getElem?_eq_none (by simp; omega)]
    subst hce
    refine wpAny_bind (wpAny_seqItems (s := { s with heap := h }) hcur rfl ?_)
    refine wpAny_bind (wpAny_newTuple ?_ (by simp only [List.toList_toArray]; rw [hlen]; exact Nat.le_trans hln (by decide)))
    have hzlt : z < h.objs.size := Heap.lt_size st.zp
    show wpAny _ _ (Builtin.SmallTypes.ownedTupleHandOut (.ref z) (.ref h.objs.size) >>= _) _ _ _
    refine wpAny_bind ?_
    unfold Builtin.SmallTypes.ownedTupleHandOut
    have hz₆ : IsZip (h.push { cls := .type "tuple", data := .seq vs.toArray.toList.toArray }) z TI TO .ellipsis := Heap.get?_push_of_some _ st.zp
    refine wpAny_bind (wpAny_setField_rec (s := { s with heap := h.push { cls := .type "tuple", data := .seq vs.toArray.toList.toArray } }) hz₆ (by simp) fun h₇ hz₇ hs₇ => ?_)
    replace hz₇ : IsZip h₇ z TI TO (rawInt h.objs.size) := hz₇
    refine wpAny_setField_rec hz₇ (by simp) fun h₈ hz₈ hs₈ => ?_
    replace hz₈ : IsZip h₈ z TI TO (rawInt h.objs.size) := hz₈
    have up : ∀ c o, c ≠ z → h.get? c = some o → h₈.get? c = some o := fun c o c1 e => hs₈.extBut _ _ c1 (hs₇.extBut _ _ c1 (Heap.get?_push_of_some _ e))
    have hT₈ : IsTV h₈ h.objs.size vs.toArray := hs₈.extBut _ _ (Nat.ne_of_gt hzlt) (hs₇.extBut _ _ (Nat.ne_of_gt hzlt) (Heap.get?_push_size _ rfl))
    have hz8 : h₈.objs.size = h.objs.size + 1 := by rw [hs₈.1, hs₇.1, Heap.size_push]
    have hsz := st.size
    rw [hsz] at hz₈ hT₈ hz8
    refine wpAny_pure ⟨_, rfl, ?_⟩
    show Q (.ref h.objs.size) _
    rw [hsz]
    exact hQ h₈ hz₈ (up _ _ D.TOz hcur) (fun c hc => by
      obtain ⟨m, hm⟩ := List.getElem?_of_mem hc
      have := st.its m c hm
      rw [if_pos (List.getElem?_eq_some_iff.mp hm).1] at this
      exact this.at fun o e => up _ o (D.iz hc) e) hT₈ hz8 fun c o c1 c2 c3 e => up c o c1 (st.keep c o c1 c2 c3 e)
  · refine ⟨rfl, 0, h₁, Nat.zero_le _, by simp, rfl, hz₁, ⟨old, hs₁.extBut _ _ D.TOz hTO, hold, fun m hm => by omega⟩, fun m c hc => ?_, fun c o c1 _ _ e => hs₁.extBut _ _ c1 e, hs₁.1⟩
    rw [if_neg (by omega)]
    have hcm : c ∈ zs := List.mem_of_getElem? hc
    exact (h1 c hcm).at fun o e => hs₁.extBut _ _ (D.iz hcm) e
structure ZSu (h0 : Heap) (z TI TO : Addr) (zs : List Zs) (k : Nat) (j : Nat) (h : Heap) : Prop where
  zp : IsZip h z TI TO .ellipsis
  out : ∃ cur : Array Value, IsTV h TO cur ∧ cur.size = zs.length
  its : ∀ m c, zs[m]? = some c → IsIt h c.t c.it c.l (if m < j then k + 1 else k)
  keep : ∀ c o, c ≠ z → c ≠ TO → c ∉ zits zs → h0.get? c = some o → h.get? c = some o
theorem zipN_next_end {k : Nat} {old : Array Value} {Q : Fin → Shared → Prop} (hh : A.handled = none) (D : ZApart z TI TO zs) (hn : zs ≠ []) (hz : IsZip s.heap z TI TO .none) (hTI : IsTV s.heap TI (zs.map fun c => Value.ref c.it).toArray) (hTO : IsTV s.heap TO old) (hold : old.size = zs.length) (hln : zs.length ≤ 1000)
    (h1 : ∀ c ∈ zs, IsIt s.heap c.t c.it c.l k) (h2 : ∀ c ∈ zs, ∃ xs, IsSq s.heap c.t c.l xs) (hend : ∃ (m : Nat) (c : Zs), zs[m]? = some c ∧ ∀ xs, IsSq s.heap c.t c.l xs → xs[k]? = none)
    (hE : ∀ h' e, (∀ c o, c ≠ z → c ≠ TO → c ∉ zits zs → s.heap.get? c = some o → h'.get? c = some o) → (∃ o, h'.get? e = some o ∧ o.cls = .type "StopIteration") → E (.ref e) { s with heap := h' }) :
    wpAny (model prog w) A (Builtin.«zip.__next__» ⟨[.ref z], []⟩) Q E s := by
  show wpAny _ _ (field (.ref z) 2 >>= _) _ _ _
  refine wpAny_bind (wpAny_field hz rfl (x := .bool false) rfl ?_)
  show wpAny _ _ (field (.ref z) 3 >>= _) _ _ _
  refine wpAny_bind (wpAny_field hz rfl (x := .ref TI) rfl ?_)
  refine wpAny_bind (wpAny_seqItems hTI rfl ?_)
  have hne : (zs.map fun c => Value.ref c.it).toArray.isEmpty = false := by
    cases zs with
    | nil => exact absurd rfl hn
    | cons a l => rfl
  simp only [hne, Bool.false_eq_true, if_false]
  show wpAny _ _ (Builtin.SmallTypes.ownedTupleIsFree (.ref z) >>= _) _ _ _
  refine wpAny_bind ?_
  unfold Builtin.SmallTypes.ownedTupleIsFree
  refine wpAny_bind (wpAny_field hz rfl (x := .none) rfl (wpAny_pure ?_))
  simp only [if_true]
  refine wpAny_bind (wpAny_rule ?_)
  refine wpAny_bind (wpAny_field hz rfl (x := .ref TO) rfl ?_)
  refine wpAny_bind (wpAny_setField_rec hz (by simp) fun h₁ hz₁ hs₁ => ?_)
  replace hz₁ : IsZip h₁ z TI TO .ellipsis := hz₁
  refine wpAny_bind (wpAny_forIn_list _ (fun rest b s' => b.1 = none ∧ ∃ j h, j ≤ zs.length ∧ rest = ((zs.map fun c => Value.ref c.it).zipIdx).drop j ∧ s' = { s with heap := h } ∧ ZSu s.heap z TI TO zs k j h ∧ ∃ (m : Nat) (c : Zs), j ≤ m ∧ zs[m]? = some c ∧ ∀ xs, IsSq s.heap c.t c.l xs → xs[k]? = none) _ ?_ ?_ _ _ ?_)
  · rintro x rest ⟨b1, b2⟩ s' ⟨hb, j, h, hj, hrest, rfl, st, me, ce, hme, hce, hxe⟩
    simp only at hb
    subst hb
    have hlt : j < ((zs.map fun c => Value.ref c.it).zipIdx).length := by
      apply Classical.byContradiction
      intro q
      rw [List.drop_eq_nil_of_le (by omega)] at hrest
      cases hrest
    rw [List.drop_eq_getElem_cons hlt] at hrest
    have hjz : j < zs.length := by simpa using hlt
    have hc : zs[j]? = some zs[j] := List.getElem?_eq_getElem hjz
    have hcm : zs[j] ∈ zs := List.getElem_mem hjz
    obtain ⟨hx, hrest'⟩ := List.cons.inj hrest
    clear hrest
    simp only [List.getElem_zipIdx, List.getElem_map, Nat.zero_add] at hx
    subst hx
    generalize hcc : zs[j] = c at *
    obtain ⟨xs, hsq⟩ := h2 c hcm
    have hit := st.its j c hc
    rw [if_neg (Nat.lt_irrefl _)] at hit
    have hsq' : IsSq h c.t c.l xs := hsq.at fun o e => st.keep _ o (D.lz hcm) (D.lTO hcm) (fun q => by
      obtain ⟨d, hd, e⟩ := List.mem_map.mp q
      exact D.li hcm hd e.symm) e
    obtain ⟨cur, hcur, hcs⟩ := st.out
    refine wpAny_bind (wpAny_onRaise ?_)
    show wpAny _ _ (Builtin.SmallTypes.nextOf (.ref c.it) >>= _) _ _ _
    cases hxk : xs[k]? with
    | none =>
      refine wpAny_bind (nextIt_end (s := { s with heap := h }) hh hit hsq' hxk fun h₂ e hs₂ he => ?_)
      obtain ⟨oe, hoe, hce⟩ := he
      have hz₂ : IsZip h₂ z TI TO .ellipsis := hs₂ _ _ (D.iz hcm).symm st.zp
      have hez : e ≠ z := fun x => by subst x; rw [hz₂] at hoe; cases hoe; simp at hce
      refine wpAny_setField_rec (s := { s with heap := h₂ }) hz₂ (by simp) fun h₃ _ hs₃ => hE h₃ e (fun a o n1 n2 n3 x => hs₃.extBut _ _ n1 (hs₂ _ _ (fun q => n3 (by rw [q]; exact mem_zits hcm)) (st.keep a o n1 n2 n3 x))) ⟨oe, hs₃.extBut _ _ hez hoe, hce⟩
    | some v =>
      refine wpAny_bind (nextIt_item (s := { s with heap := h }) hit hsq' hxk fun h₂ hi₂ hs₂ => wpAny_pure ?_)
      have hTO₂ : IsTV h₂ TO cur := hs₂.extBut _ _ (D.iTO hcm).symm hcur
      refine wpAny_bind (wpAny_seqItems hTO₂ rfl ?_)
      refine wpAny_bind (wpAny_updateSeq (s := { s with heap := h₂ }) hTO₂ rfl ?_ (by rw [hcs]; exact Nat.le_trans hln (by decide)) (by
        rw [Array.size_setIfInBounds, hcs]
        exact Nat.le_trans hln (by decide)))
      have hs₃ : Heap.SameBut TO h₂ (h₂.update TO (Obj.mapSeq fun x => x.setIfInBounds j v)) := Heap.SameBut.update ..
      have hTO₃ : IsTV (h₂.update TO (Obj.mapSeq fun x => x.setIfInBounds j v)) TO (cur.setIfInBounds j v) := by
        show Heap.get? _ _ = _
        rw [Heap.get?_update_self _ hTO₂ rfl]
        simp [Obj.mapSeq]
      generalize h₂.update TO (Obj.mapSeq fun x => x.setIfInBounds j v) = h₃ at *
      have hne2 : me ≠ j := fun q => by
        subst q
        rw [hc] at hce
        cases hce
        have := hxe xs hsq
        rw [hxk] at this
        cases this
      refine wpAny_bind (wpAny_letGo (wpAny_pure ⟨rfl, j + 1, h₃, by omega, hrest', rfl, ?_, me, ce, by omega, hce, hxe⟩))
      refine ⟨hs₃.extBut _ _ D.TOz.symm (hs₂.extBut _ _ (D.iz hcm).symm st.zp), ⟨_, hTO₃, by rw [Array.size_setIfInBounds, hcs]⟩, fun m d hd => ?_, fun a o n1 n2 n3 e => ?_⟩
      · have hdm : d ∈ zs := List.mem_of_getElem? hd
        by_cases e : m = j
        · subst e
          rw [hc] at hd
          cases hd
          rw [if_pos (by omega)]
          exact hi₂.at fun o q => hs₃.extBut _ _ (D.iTO hcm) q
        · have := st.its m d hd
          have e2 : (if m < j + 1 then k + 1 else k) = if m < j then k + 1 else k := by
            by_cases q : m < j
            · rw [if_pos q, if_pos (by omega)]
            · rw [if_neg q, if_neg (by omega)]
          rw [e2]
          exact this.at fun o q => hs₃.extBut _ _ (D.iTO hdm) (hs₂.extBut _ _ (D.ii hd hc e) q)
      · exact hs₃.extBut _ _ n2 (hs₂.extBut _ _ (fun q => n3 (by rw [q]; exact mem_zits hcm)) (st.keep a o n1 n2 n3 e))
  · rintro ⟨b1, b2⟩ s' ⟨hb, j, h, hj, hrest, rfl, st, me, ce, hme, hce, hxe⟩
    have hjz : j = zs.length := by
      have := congrArg List.length hrest
      simp at this
      omega
    have := (List.getElem?_eq_some_iff.mp hce).1
    omega
  · obtain ⟨me, ce, hce, hxe⟩ := hend
    refine ⟨rfl, 0, h₁, Nat.zero_le _, by simp, rfl, ⟨hz₁, ⟨old, hs₁.extBut _ _ D.TOz hTO, hold⟩, fun m c hc => ?_, fun c o c1 _ _ e => hs₁.extBut _ _ c1 e⟩, me, ce, Nat.zero_le _, hce, hxe⟩
    rw [if_neg (by omega)]
    have hcm : c ∈ zs := List.mem_of_getElem? hc
    exact (h1 c hcm).at fun o e => hs₁.extBut _ _ (D.iz hcm) e
theorem pyNext_zipN_item {k : Nat} {vs : List Value} {old : Array Value} {Q : Option Value → Shared → Prop} (D : ZApart z TI TO zs) (hn : zs ≠ []) (hz : IsZip s.heap z TI TO .none) (hTI : IsTV s.heap TI (zs.map fun c => Value.ref c.it).toArray) (hTO : IsTV s.heap TO old) (hold : old.size = zs.length) (hln : zs.length ≤ 1000)
    (h1 : ∀ c ∈ zs, IsIt s.heap c.t c.it c.l k) (hlen : vs.length = zs.length) (h2 : ∀ (m : Nat) (c : Zs) (v : Value), zs[m]? = some c → vs[m]? = some v → ∃ xs, IsSq s.heap c.t c.l xs ∧ xs[k]? = some v)
    (hQ : ∀ h', IsZip h' z TI TO (rawInt s.heap.objs.size) → IsTV h' TO vs.toArray → (∀ c ∈ zs, IsIt h' c.t c.it c.l (k + 1)) → IsTV h' s.heap.objs.size vs.toArray → h'.objs.size = s.heap.objs.size + 1 →
      (∀ c o, c ≠ z → c ≠ TO → c ∉ zits zs → s.heap.get? c = some o → h'.get? c = some o) → Q (some (.ref s.heap.objs.size)) { s with heap := h' }) :
    wpAny (model prog w) A (pyNext (.ref z)) Q E s := by
  have hT : s.TypeIs (.ref z) "zip" := ⟨_, hz, rfl⟩
  unfold pyNext
  exact wpAny_bind (wpAny_attempt (wpAny_callSpecial?_slot (name := Str.ofString "__next__") hT F.slot_zip_next
    (wpAny_call_entry F.slot_zip_next hT F.entry_zip_next
      (zipN_next_item D hn hz hTI hTO hold hln h1 hlen h2 fun h' a1 a2 a3 a4 a5 a6 => wpAny_pure (hQ h' a1 a2 a3 a4 a5 a6)) (F.args_zip_next_1 _))))
theorem pyNext_zipN_end {k : Nat} {old : Array Value} {Q : Option Value → Shared → Prop} (hh : A.handled = none) (D : ZApart z TI TO zs) (hn : zs ≠ []) (hz : IsZip s.heap z TI TO .none) (hTI : IsTV s.heap TI (zs.map fun c => Value.ref c.it).toArray) (hTO : IsTV s.heap TO old) (hold : old.size = zs.length) (hln : zs.length ≤ 1000)
    (h1 : ∀ c ∈ zs, IsIt s.heap c.t c.it c.l k) (h2 : ∀ c ∈ zs, ∃ xs, IsSq s.heap c.t c.l xs) (hend : ∃ (m : Nat) (c : Zs), zs[m]? = some c ∧ ∀ xs, IsSq s.heap c.t c.l xs → xs[k]? = none)
    (hQ : ∀ h', (∀ c o, c ≠ z → c ≠ TO → c ∉ zits zs → s.heap.get? c = some o → h'.get? c = some o) → Q none { s with heap := h' }) : wpAny (model prog w) A (pyNext (.ref z)) Q E s := by
  have hT : s.TypeIs (.ref z) "zip" := ⟨_, hz, rfl⟩
  unfold pyNext
  refine wpAny_bind (wpAny_attempt (wpAny_callSpecial?_slot (name := Str.ofString "__next__") hT F.slot_zip_next
    (wpAny_call_entry F.slot_zip_next hT F.entry_zip_next (zipN_next_end hh D hn hz hTI hTO hold hln h1 h2 hend fun h' e hk he => ?_) (F.args_zip_next_1 _))))
  obtain ⟨o, ho, hc⟩ := he
  refine wpAny_bind (wpAny_isInstance (T := "StopIteration") (b := true) ⟨o, ho, hc⟩ isSubtype_stop ?_)
  exact wpAny_pure (hQ _ hk)
end
/-! the walk -/
def Sq2 (K : PySem.W.Frag) (H : Hp) (t : Bool) (a : Addr) (xs : List V) : Prop := if t = true then SqT K H a xs else SqL K H a xs
def ItzN (K : PySem.W.Frag) (cs : List (Bool × Addr)) : It :=
  ⟨fun i H => ∀ c ∈ cs, ∃ xs x, Sq2 K H c.1 c.2 xs ∧ xs[i]? = some x,
    fun i H v H' => ∃ T vs, v = .ref T ∧ H T = none ∧ H' = upd H T (.tup vs) ∧ vs.length = cs.length ∧ ∀ (m : Nat) c x, cs[m]? = some c → vs[m]? = some x → ∀ xs, Sq2 K H c.1 c.2 xs → xs[i]? = some x,
    fun i H => (∀ c ∈ cs, ∃ xs, Sq2 K H c.1 c.2 xs) ∧ ∃ c ∈ cs, ∃ xs, Sq2 K H c.1 c.2 xs ∧ xs.length ≤ i⟩

theorem inv_sq {X : Cx} {pins : List (Addr × Obj)} {σ : L2.St} {H : Hp} {s : Shared} (I : Inv X pins σ H s) {t : Bool} {a : Addr} {xs : List V} (h : Sq2 X.K H t a xs) : ∃ its : List Value, Vals xs its ∧ IsSq s.heap t a its.toArray := by
  cases t
  · obtain ⟨its, rv, p, _⟩ := I.list h
    exact ⟨its, rv, p.isList⟩
  · obtain ⟨its, rv, p, _⟩ := I.tuple h
    exact ⟨its, rv, p⟩
theorem inv_sq_inj {X : Cx} {pins : List (Addr × Obj)} {σ : L2.St} {H : Hp} {s : Shared} (I : Inv X pins σ H s) {t : Bool} {a : Addr} {xs ys : List V} (h : Sq2 X.K H t a xs) (k : Sq2 X.K H t a ys) : xs = ys := by
  cases t
  · exact I.list_inj h k
  · exact I.tuple_inj h k
theorem isSq_inj {h : Heap} {t : Bool} {l : Addr} {xs ys : Array Value} (a : IsSq h t l xs) (b : IsSq h t l ys) : xs = ys := by
  cases t
  · obtain ⟨o, e, _, n, d⟩ := a
    obtain ⟨o', e', _, n', d'⟩ := b
    rw [e] at e'; cases e'
    rw [d] at d'
    injection d'
  · obtain ⟨o, e, _, n, d⟩ := a
    obtain ⟨o', e', _, n', d'⟩ := b
    rw [e] at e'; cases e'
    rw [d] at d'
    injection d'
def zcs (zs : List Zs) : List (Bool × Addr) := zs.map fun c => (c.t, c.l)
theorem turn_vals {X : Cx} {pins : List (Addr × Obj)} {σ : L2.St} {H : Hp} {s : Shared} (I : Inv X pins σ H s) (i : Nat) : ∀ zs : List Zs, (∀ c ∈ zcs zs, ∃ xs x, Sq2 X.K H c.1 c.2 xs ∧ xs[i]? = some x) →
    ∃ vs us, Vals vs us ∧ us.length = zs.length ∧ vs.length = zs.length ∧ ∀ (m : Nat) (c : Zs) (u : Value) (x : V), zs[m]? = some c → us[m]? = some u → vs[m]? = some x → ∃ xs, (IsSq s.heap c.t c.l xs ∧ xs[i]? = some u) ∧ ∃ ys, Sq2 X.K H c.t c.l ys ∧ ys[i]? = some x
  | [], _ => ⟨[], [], .nil, rfl, rfl, fun m c u x h => by simp at h⟩
  | c :: zs, h => by
    obtain ⟨vs, us, r, l1, l2, k⟩ := turn_vals I i zs fun d hd => h d (List.mem_cons_of_mem _ hd)
    obtain ⟨xs, x, hs, hx⟩ := h (c.t, c.l) List.mem_cons_self
    obtain ⟨its, rv, p⟩ := inv_sq I hs
    obtain ⟨u, hu, ru⟩ := rv.get hx
    refine ⟨x :: vs, u :: us, .cons ru r, by simp [l1], by simp [l2], fun m d v y hm hv hy => ?_⟩
    cases m with
    | zero =>
      simp at hm hv hy
      subst hm hv hy
      exact ⟨its.toArray, ⟨p, by simpa using hu⟩, xs, hs, hx⟩
    | succ m => exact k m d v y (by simpa using hm) (by simpa using hv) (by simpa using hy)
theorem turn_zipN {P : Program} {w : World} {K : PySem.W.Frag} {elts : List Expr} {kk : Nat} {tpos : Pos} {z TI TO : Addr} {zs : List Zs} (D : ZApart z TI TO zs) (hn : zs ≠ []) (hln : zs.length ≤ 1000) :
    Turn P w K (.Tuple elts kk tpos) (ItzN K (zcs zs)) (z :: TI :: TO :: zits zs) z (fun i h => IsZip h z TI TO .none ∧ IsTV h TI (zs.map fun c => Value.ref c.it).toArray ∧ (∃ old, IsTV h TO old ∧ old.size = zs.length) ∧ ∀ c ∈ zs, IsIt h c.t c.it c.l i) where
  mem := List.mem_cons_self
  obj := fun i h st c hc => by
    obtain ⟨hz, hTI, ⟨old, hTO, _⟩, h1⟩ := st
    rcases List.mem_cons.mp hc with q | hc
    · rw [q]; exact ⟨_, hz, fun v q => nomatch q⟩
    rcases List.mem_cons.mp hc with q | hc
    · rw [q]; exact ⟨_, hTI, fun v q => nomatch q⟩
    rcases List.mem_cons.mp hc with q | hc
    · rw [q]; exact ⟨_, hTO, fun v q => nomatch q⟩
    obtain ⟨d, hd, rfl⟩ := List.mem_map.mp hc
    exact (h1 d hd).there
  keep := fun i h h' st k => by
    obtain ⟨hz, hTI, ⟨old, hTO, ho⟩, h1⟩ := st
    exact ⟨k z (by simp) _ hz, k TI (by simp) _ hTI, ⟨old, k TO (by simp) _ hTO, ho⟩, fun c hc => (h1 c hc).at fun o q => k c.it (List.mem_cons_of_mem _ (List.mem_cons_of_mem _ (List.mem_cons_of_mem _ (mem_zits hc)))) o q⟩
  item := by
    intro X hP hw hK hc i pins s σ H E I hf st hg
    subst hP hw hK
    obtain ⟨hz, hTI, ⟨old, hTO, ho⟩, h1⟩ := st
    obtain ⟨vs, us, rv, l1, l2, hv⟩ := turn_vals I i zs hg
    have hzl : z < s.heap.objs.size := Heap.lt_size hz
    have get : ∀ (m : Nat) (c : Zs), zs[m]? = some c → ∃ x, vs[m]? = some x := fun m c h => ⟨_, List.getElem?_eq_getElem (by have := (List.getElem?_eq_some_iff.mp h).1; omega)⟩
    refine pyNext_zipN_item D hn hz hTI hTO ho hln h1 l1 (fun m c u hm hu => by
      obtain ⟨x, hx⟩ := get m c hm
      obtain ⟨xs, q, _⟩ := hv m c u x hm hu hx
      exact ⟨xs, q⟩) fun h' z' TO' h1' hT hsz hk => ?_
    refine ⟨_, rfl, wpAny_letOwnedTupleGo_zip (s := { s with heap := h' }) z' fun h'' z'' sb => ?_⟩
    have hT2 : IsTV h'' s.heap.objs.size us.toArray := (sb.2 _ (Nat.ne_of_gt hzl)).trans hT
    have new : ObjOk X.prog X.w (upd H s.heap.objs.size (.tup vs)) h'' s.heap.objs.size (.tup vs) :=
      ⟨by rw [l2]; exact Nat.le_trans hln (by decide), us, rv, ⟨_, hT2, rfl, _, rfl⟩⟩
    have nz : ∀ c, c ∉ z :: TI :: TO :: zits zs → c ≠ z ∧ c ≠ TO ∧ c ∉ zits zs := fun c h => ⟨fun q => h (by rw [q]; simp), fun q => h (by rw [q]; simp), fun q => h (List.mem_cons_of_mem _ (List.mem_cons_of_mem _ (List.mem_cons_of_mem _ q)))⟩
    have I1 : Inv X pins σ (upd H s.heap.objs.size (.tup vs)) { s with heap := h'' } :=
      I.turnedNew (t' := s.toks) (ch := z :: TI :: TO :: zits zs) (fun c o hb q => (sb.2 c (nz c hb).1).trans (hk c o (nz c hb).1 (nz c hb).2.1 (nz c hb).2.2 q)) hf (Nat.le_refl _) new
    have TIi : TI ∉ zits zs := fun q => by
      obtain ⟨d, hd, e⟩ := List.mem_map.mp q
      exact D.iTI hd e
    refine ⟨.ref s.heap.objs.size, _, I1, rfl, ⟨_, vs, rfl, I.hok.fresh (Nat.le_refl _), rfl, by rw [l2]; simp [zcs], fun m c x hm hx xs hs => ?_⟩, ⟨z'', ?_, ⟨us.toArray, ?_, by simp [l1]⟩, fun c hc => ?_⟩, fun c hcm => ?_⟩
    · rw [zcs, List.getElem?_map] at hm
      obtain ⟨d, hd, rfl⟩ := Option.map_eq_some_iff.mp hm
      have hu : us[m]? = some (us[m]'(by have := (List.getElem?_eq_some_iff.mp hd).1; omega)) := List.getElem?_eq_getElem _
      obtain ⟨_, _, ys, hys, hyx⟩ := hv m d _ x hd hu hx
      rw [inv_sq_inj I hs hys]
      exact hyx
    · exact (sb.2 _ D.TIz).trans (hk _ _ D.TIz D.TITO TIi hTI)
    · exact (sb.2 _ D.TOz).trans TO'
    · exact (h1' c hc).at fun o q => (sb.2 _ (D.iz hc)).trans q
    · have hlt : c < s.heap.objs.size := by
        rcases List.mem_cons.mp hcm with q | hcm
        · rw [q]; exact hzl
        rcases List.mem_cons.mp hcm with q | hcm
        · rw [q]; exact Heap.lt_size hTI
        rcases List.mem_cons.mp hcm with q | hcm
        · rw [q]; exact Heap.lt_size hTO
        obtain ⟨d, hd, rfl⟩ := List.mem_map.mp hcm
        obtain ⟨o, e, _⟩ := (h1 d hd).there
        exact Heap.lt_size e
      rw [upd_ne (Nat.ne_of_lt hlt)]
      exact (hf c hcm).1
  done := by
    intro X hP hw hK hc i pins s σ H E I hf st hg
    subst hP hw hK
    obtain ⟨hz, hTI, ⟨old, hTO, ho⟩, h1⟩ := st
    obtain ⟨hall, c, hcm, xs, hs, hle⟩ := hg
    obtain ⟨d, hd, rfl⟩ := List.mem_map.mp hcm
    obtain ⟨m, hm⟩ := List.getElem?_of_mem hd
    have nz : ∀ c, c ∉ z :: TI :: TO :: zits zs → c ≠ z ∧ c ≠ TO ∧ c ∉ zits zs := fun c h => ⟨fun q => h (by rw [q]; simp), fun q => h (by rw [q]; simp), fun q => h (List.mem_cons_of_mem _ (List.mem_cons_of_mem _ (List.mem_cons_of_mem _ q)))⟩
    obtain ⟨its, rv, p⟩ := inv_sq I hs
    refine pyNext_zipN_end (I.ok.hd hc) D hn hz hTI hTO ho hln h1 (fun c hc => by
      obtain ⟨ys, hys⟩ := hall (c.t, c.l) (List.mem_map.mpr ⟨c, hc, rfl⟩)
      obtain ⟨its, _, p⟩ := inv_sq I hys
      exact ⟨_, p⟩) ⟨m, d, hm, fun ys hy => by
      rw [isSq_inj hy p]
      have := rv.length
      simp
      omega⟩ fun h' hk => ⟨rfl, I.turnedL (t' := s.toks) (ch := z :: TI :: TO :: zits zs) (fun c o hb q => hk c o (nz c hb).1 (nz c hb).2.1 (nz c hb).2.2 q) hf⟩
  self := fun A i s Q E st h => wpAny_pyIter_zip st.1 h
def itObj (t : Bool) (l : Addr) : Obj := if t = true then { cls := .type "tuple_iterator", data := .fields #[.ref l, .int 0 0] } else { cls := .type "list_iterator", data := .fields #[.ref l, .int 0 0] }
theorem itObj_is {h : Heap} {t : Bool} {it l : Addr} (e : h.get? it = some (itObj t l)) : IsIt h t it l 0 := by
  cases t
  · exact ⟨_, e, rfl, rfl⟩
  · exact ⟨_, e, rfl, rfl⟩
theorem itObj_fr (t : Bool) (l : Addr) : (itObj t l).isFreed = false := by cases t <;> rfl
section
variable {prog : Program} {w : World} {A : Around} {E : Value → Shared → Prop} {s : Shared}
theorem pyIter_sq {t : Bool} {l : Addr} {xs : Array Value} {Q : Value → Shared → Prop} (hl : IsSq s.heap t l xs) (hQ : Q (.ref s.heap.objs.size) { s with heap := s.heap.push (itObj t l) }) : wpAny (model prog w) A (pyIter (.ref l)) Q E s := by
  cases t
  · exact wpAny_pyIter_list hl hQ
  · exact wpAny_pyIter_tuple hl hQ
end
theorem IsSq.push {h : Heap} {t : Bool} {l : Addr} {xs : Array Value} (x : IsSq h t l xs) (o : Obj) : IsSq (h.push o) t l xs := x.at fun _ e => Heap.get?_push_of_some _ e

abbrev zh2_0 (h : Heap) (t1 : Bool) (l1 : Addr) (t2 : Bool) (l2 : Addr) : Heap := h
abbrev zh2_1 (h : Heap) (t1 : Bool) (l1 : Addr) (t2 : Bool) (l2 : Addr) : Heap := (zh2_0 h t1 l1 t2 l2).push (itObj t1 l1)
abbrev zh2_2 (h : Heap) (t1 : Bool) (l1 : Addr) (t2 : Bool) (l2 : Addr) : Heap := (zh2_1 h t1 l1 t2 l2).push (itObj t2 l2)
abbrev zh2_3 (h : Heap) (t1 : Bool) (l1 : Addr) (t2 : Bool) (l2 : Addr) : Heap := (zh2_2 h t1 l1 t2 l2).push { cls := .type "tuple", data := .seq #[.ref (zh2_0 h t1 l1 t2 l2).objs.size, .ref (zh2_1 h t1 l1 t2 l2).objs.size] }
abbrev zh2_4 (h : Heap) (t1 : Bool) (l1 : Addr) (t2 : Bool) (l2 : Addr) : Heap := (zh2_3 h t1 l1 t2 l2).push { cls := .type "tuple", data := .seq #[.none, .none] }
abbrev zh2_5 (h : Heap) (t1 : Bool) (l1 : Addr) (t2 : Bool) (l2 : Addr) : Heap := (zh2_4 h t1 l1 t2 l2).push { cls := .type "zip", data := .fields #[.none, .bool false, .bool false, .ref (zh2_2 h t1 l1 t2 l2).objs.size, .ref (zh2_3 h t1 l1 t2 l2).objs.size] }
theorem meets_zipN_2 (t1 t2 : Bool) (l1 l2 : Addr) (x1 x2 : Array Value) :
    Meets (Builtin.«zip.__new__» ⟨[.type "zip", .ref l1, .ref l2], []⟩) (fun _ R s => IsSq s.heap t1 l1 x1 ∧ IsSq s.heap t2 l2 x2 ∧
      R (.ok (.ret (.ref (zh2_4 s.heap t1 l1 t2 l2).objs.size))) { s with heap := zh2_5 s.heap t1 l1 t2 l2 }) :=
  .of_wp fun prog w A R s h => by
    obtain ⟨hp, g, d, tk, os⟩ := s; obtain ⟨k1, k2, h⟩ := h
    have hsub := sub_zip
    have K1 : IsSq (Shared.heap ⟨zh2_0 hp t1 l1 t2 l2, g, d, tk, os⟩) t1 l1 x1 := k1
    have K2 : IsSq (Shared.heap ⟨zh2_1 hp t1 l1 t2 l2, g, d, tk, os⟩) t2 l2 x2 := (k2.push _)
    wp_walk using pyIter_sq K1, pyIter_sq K2
    exact ⟨_, rfl, h⟩
section
variable {prog : Program} {w : World} {A : Around} {E : Value → Shared → Prop} {s : Shared}
theorem call_zipN_2 {t1 t2 : Bool} {l1 l2 : Addr} {x1 x2 : Array Value} {Q : Value → Shared → Prop} (k1 : IsSq s.heap t1 l1 x1) (k2 : IsSq s.heap t2 l2 x2)
    (h : ∀ h', IsZip h' (s.heap.objs.size + 4) (s.heap.objs.size + 2) (s.heap.objs.size + 3) .none → IsTV h' (s.heap.objs.size + 2) (([⟨t1, s.heap.objs.size, l1⟩, ⟨t2, s.heap.objs.size + 1, l2⟩] : List Zs).map fun c => Value.ref c.it).toArray → IsTV h' (s.heap.objs.size + 3) #[.none, .none] → (∀ c ∈ ([⟨t1, s.heap.objs.size, l1⟩, ⟨t2, s.heap.objs.size + 1, l2⟩] : List Zs), IsIt h' c.t c.it c.l 0) →
      (∀ c o, s.heap.get? c = some o → h'.get? c = some o) → Q (.ref (s.heap.objs.size + 4)) { s with heap := h' }) :
    wpAny (model prog w) A (call (.type "zip") [.ref l1, .ref l2]) Q E s := by
  refine callType_new F.called_zip (by decide) (F.typeCall_zip_2 _ _) (F.newCall_zip_2 _ _) (fun obj => F.args_object_init_3 obj _ _) F.entry_zip_new
    (meets_zipN_2 t1 t2 l1 l2 x1 x2) ⟨k1, k2, ?_⟩
  have z1 : (zh2_1 s.heap t1 l1 t2 l2).objs.size = s.heap.objs.size + 1 := Heap.size_push ..
  have z2 : (zh2_2 s.heap t1 l1 t2 l2).objs.size = s.heap.objs.size + 2 := by rw [Heap.size_push, z1]
  have z3 : (zh2_3 s.heap t1 l1 t2 l2).objs.size = s.heap.objs.size + 3 := by rw [Heap.size_push, z2]
  have z4 : (zh2_4 s.heap t1 l1 t2 l2).objs.size = s.heap.objs.size + 4 := by rw [Heap.size_push, z3]
  have g1 : (zh2_5 s.heap t1 l1 t2 l2).get? (zh2_0 s.heap t1 l1 t2 l2).objs.size = some _ := Heap.get?_push_of_some _ (Heap.get?_push_of_some _ (Heap.get?_push_of_some _ (Heap.get?_push_of_some _ (Heap.get?_push_size _ (itObj_fr _ _)))))
  have g2 : (zh2_5 s.heap t1 l1 t2 l2).get? (zh2_1 s.heap t1 l1 t2 l2).objs.size = some _ := Heap.get?_push_of_some _ (Heap.get?_push_of_some _ (Heap.get?_push_of_some _ (Heap.get?_push_size _ (itObj_fr _ _))))
  have g3 : (zh2_5 s.heap t1 l1 t2 l2).get? (zh2_2 s.heap t1 l1 t2 l2).objs.size = some _ := Heap.get?_push_of_some _ (Heap.get?_push_of_some _ (Heap.get?_push_size _ rfl))
  have g4 : (zh2_5 s.heap t1 l1 t2 l2).get? (zh2_3 s.heap t1 l1 t2 l2).objs.size = some _ := Heap.get?_push_of_some _ (Heap.get?_push_size _ rfl)
  have g5 : (zh2_5 s.heap t1 l1 t2 l2).get? (zh2_4 s.heap t1 l1 t2 l2).objs.size = some _ := Heap.get?_push_size _ rfl
  show _ ∧ _
  rw [z1] at g2
  rw [z1, z2] at g3
  rw [z3] at g4
  rw [z2, z3, z4] at g5
  rw [z4]
  refine ⟨⟨_, g5, rfl⟩, h _ g5 g3 g4 (fun c hc => ?_) fun c o x => Heap.get?_push_of_some _ (Heap.get?_push_of_some _ (Heap.get?_push_of_some _ (Heap.get?_push_of_some _ (Heap.get?_push_of_some _ (x)))))⟩
  simp only [List.mem_cons, List.not_mem_nil, or_false] at hc
  rcases hc with rfl | rfl
  · exact itObj_is g1
  · exact itObj_is g2
end
theorem typeCall_zip_3 (v1 v2 v3 : Value) : checkTypeCall "zip" ⟨[v1, v2, v3], []⟩ = pure () := by kernel_rfl
theorem newCall_zip_3 (v1 v2 v3 : Value) : checkBuiltinCall "zip.__new__" ⟨[.type "zip", v1, v2, v3], []⟩ = pure () := by kernel_rfl
theorem args_object_init_4 (a v1 v2 v3 : Value) : argsOk "object.__init__" ⟨[a, v1, v2, v3], []⟩ := by
  unfold argsOk; rw [signature?_of (id := "object.__init__") (n := ['_', '_', 't', 'i', 'n', 'i', '_', '_']) (o := ['t', 'c', 'e', 'j', 'b', 'o']) (by kernel_rfl) F.owner_object]; kernel_rfl
abbrev zh3_0 (h : Heap) (t1 : Bool) (l1 : Addr) (t2 : Bool) (l2 : Addr) (t3 : Bool) (l3 : Addr) : Heap := h
abbrev zh3_1 (h : Heap) (t1 : Bool) (l1 : Addr) (t2 : Bool) (l2 : Addr) (t3 : Bool) (l3 : Addr) : Heap := (zh3_0 h t1 l1 t2 l2 t3 l3).push (itObj t1 l1)
abbrev zh3_2 (h : Heap) (t1 : Bool) (l1 : Addr) (t2 : Bool) (l2 : Addr) (t3 : Bool) (l3 : Addr) : Heap := (zh3_1 h t1 l1 t2 l2 t3 l3).push (itObj t2 l2)
abbrev zh3_3 (h : Heap) (t1 : Bool) (l1 : Addr) (t2 : Bool) (l2 : Addr) (t3 : Bool) (l3 : Addr) : Heap := (zh3_2 h t1 l1 t2 l2 t3 l3).push (itObj t3 l3)
abbrev zh3_4 (h : Heap) (t1 : Bool) (l1 : Addr) (t2 : Bool) (l2 : Addr) (t3 : Bool) (l3 : Addr) : Heap := (zh3_3 h t1 l1 t2 l2 t3 l3).push { cls := .type "tuple", data := .seq #[.ref (zh3_0 h t1 l1 t2 l2 t3 l3).objs.size, .ref (zh3_1 h t1 l1 t2 l2 t3 l3).objs.size, .ref (zh3_2 h t1 l1 t2 l2 t3 l3).objs.size] }
abbrev zh3_5 (h : Heap) (t1 : Bool) (l1 : Addr) (t2 : Bool) (l2 : Addr) (t3 : Bool) (l3 : Addr) : Heap := (zh3_4 h t1 l1 t2 l2 t3 l3).push { cls := .type "tuple", data := .seq #[.none, .none, .none] }
abbrev zh3_6 (h : Heap) (t1 : Bool) (l1 : Addr) (t2 : Bool) (l2 : Addr) (t3 : Bool) (l3 : Addr) : Heap := (zh3_5 h t1 l1 t2 l2 t3 l3).push { cls := .type "zip", data := .fields #[.none, .bool false, .bool false, .ref (zh3_3 h t1 l1 t2 l2 t3 l3).objs.size, .ref (zh3_4 h t1 l1 t2 l2 t3 l3).objs.size] }
theorem meets_zipN_3 (t1 t2 t3 : Bool) (l1 l2 l3 : Addr) (x1 x2 x3 : Array Value) :
    Meets (Builtin.«zip.__new__» ⟨[.type "zip", .ref l1, .ref l2, .ref l3], []⟩) (fun _ R s => IsSq s.heap t1 l1 x1 ∧ IsSq s.heap t2 l2 x2 ∧ IsSq s.heap t3 l3 x3 ∧
      R (.ok (.ret (.ref (zh3_5 s.heap t1 l1 t2 l2 t3 l3).objs.size))) { s with heap := zh3_6 s.heap t1 l1 t2 l2 t3 l3 }) :=
  .of_wp fun prog w A R s h => by
    obtain ⟨hp, g, d, tk, os⟩ := s; obtain ⟨k1, k2, k3, h⟩ := h
    have hsub := sub_zip
    have K1 : IsSq (Shared.heap ⟨zh3_0 hp t1 l1 t2 l2 t3 l3, g, d, tk, os⟩) t1 l1 x1 := k1
    have K2 : IsSq (Shared.heap ⟨zh3_1 hp t1 l1 t2 l2 t3 l3, g, d, tk, os⟩) t2 l2 x2 := (k2.push _)
    have K3 : IsSq (Shared.heap ⟨zh3_2 hp t1 l1 t2 l2 t3 l3, g, d, tk, os⟩) t3 l3 x3 := ((k3.push _).push _)
    wp_walk using pyIter_sq K1, pyIter_sq K2, pyIter_sq K3
    exact ⟨_, rfl, h⟩
section
variable {prog : Program} {w : World} {A : Around} {E : Value → Shared → Prop} {s : Shared}
theorem call_zipN_3 {t1 t2 t3 : Bool} {l1 l2 l3 : Addr} {x1 x2 x3 : Array Value} {Q : Value → Shared → Prop} (k1 : IsSq s.heap t1 l1 x1) (k2 : IsSq s.heap t2 l2 x2) (k3 : IsSq s.heap t3 l3 x3)
    (h : ∀ h', IsZip h' (s.heap.objs.size + 5) (s.heap.objs.size + 3) (s.heap.objs.size + 4) .none → IsTV h' (s.heap.objs.size + 3) (([⟨t1, s.heap.objs.size, l1⟩, ⟨t2, s.heap.objs.size + 1, l2⟩, ⟨t3, s.heap.objs.size + 2, l3⟩] : List Zs).map fun c => Value.ref c.it).toArray → IsTV h' (s.heap.objs.size + 4) #[.none, .none, .none] → (∀ c ∈ ([⟨t1, s.heap.objs.size, l1⟩, ⟨t2, s.heap.objs.size + 1, l2⟩, ⟨t3, s.heap.objs.size + 2, l3⟩] : List Zs), IsIt h' c.t c.it c.l 0) →
      (∀ c o, s.heap.get? c = some o → h'.get? c = some o) → Q (.ref (s.heap.objs.size + 5)) { s with heap := h' }) :
    wpAny (model prog w) A (call (.type "zip") [.ref l1, .ref l2, .ref l3]) Q E s := by
  refine callType_new F.called_zip (by decide) (typeCall_zip_3 _ _ _) (newCall_zip_3 _ _ _) (fun obj => args_object_init_4 obj _ _ _) F.entry_zip_new
    (meets_zipN_3 t1 t2 t3 l1 l2 l3 x1 x2 x3) ⟨k1, k2, k3, ?_⟩
  have z1 : (zh3_1 s.heap t1 l1 t2 l2 t3 l3).objs.size = s.heap.objs.size + 1 := Heap.size_push ..
  have z2 : (zh3_2 s.heap t1 l1 t2 l2 t3 l3).objs.size = s.heap.objs.size + 2 := by rw [Heap.size_push, z1]
  have z3 : (zh3_3 s.heap t1 l1 t2 l2 t3 l3).objs.size = s.heap.objs.size + 3 := by rw [Heap.size_push, z2]
  have z4 : (zh3_4 s.heap t1 l1 t2 l2 t3 l3).objs.size = s.heap.objs.size + 4 := by rw [Heap.size_push, z3]
  have z5 : (zh3_5 s.heap t1 l1 t2 l2 t3 l3).objs.size = s.heap.objs.size + 5 := by rw [Heap.size_push, z4]
  have g1 : (zh3_6 s.heap t1 l1 t2 l2 t3 l3).get? (zh3_0 s.heap t1 l1 t2 l2 t3 l3).objs.size = some _ := Heap.get?_push_of_some _ (Heap.get?_push_of_some _ (Heap.get?_push_of_some _ (Heap.get?_push_of_some _ (Heap.get?_push_of_some _ (Heap.get?_push_size _ (itObj_fr _ _))))))
  have g2 : (zh3_6 s.heap t1 l1 t2 l2 t3 l3).get? (zh3_1 s.heap t1 l1 t2 l2 t3 l3).objs.size = some _ := Heap.get?_push_of_some _ (Heap.get?_push_of_some _ (Heap.get?_push_of_some _ (Heap.get?_push_of_some _ (Heap.get?_push_size _ (itObj_fr _ _)))))
  have g3 : (zh3_6 s.heap t1 l1 t2 l2 t3 l3).get? (zh3_2 s.heap t1 l1 t2 l2 t3 l3).objs.size = some _ := Heap.get?_push_of_some _ (Heap.get?_push_of_some _ (Heap.get?_push_of_some _ (Heap.get?_push_size _ (itObj_fr _ _))))
  have g4 : (zh3_6 s.heap t1 l1 t2 l2 t3 l3).get? (zh3_3 s.heap t1 l1 t2 l2 t3 l3).objs.size = some _ := Heap.get?_push_of_some _ (Heap.get?_push_of_some _ (Heap.get?_push_size _ rfl))
  have g5 : (zh3_6 s.heap t1 l1 t2 l2 t3 l3).get? (zh3_4 s.heap t1 l1 t2 l2 t3 l3).objs.size = some _ := Heap.get?_push_of_some _ (Heap.get?_push_size _ rfl)
  have g6 : (zh3_6 s.heap t1 l1 t2 l2 t3 l3).get? (zh3_5 s.heap t1 l1 t2 l2 t3 l3).objs.size = some _ := Heap.get?_push_size _ rfl
  show _ ∧ _
  rw [z1] at g2
  rw [z2] at g3
  rw [z1, z2, z3] at g4
  rw [z4] at g5
  rw [z3, z4, z5] at g6
  rw [z5]
  refine ⟨⟨_, g6, rfl⟩, h _ g6 g4 g5 (fun c hc => ?_) fun c o x => Heap.get?_push_of_some _ (Heap.get?_push_of_some _ (Heap.get?_push_of_some _ (Heap.get?_push_of_some _ (Heap.get?_push_of_some _ (Heap.get?_push_of_some _ (x))))))⟩
  simp only [List.mem_cons, List.not_mem_nil, or_false] at hc
  rcases hc with rfl | rfl | rfl
  · exact itObj_is g1
  · exact itObj_is g2
  · exact itObj_is g3
end
theorem typeCall_zip_4 (v1 v2 v3 v4 : Value) : checkTypeCall "zip" ⟨[v1, v2, v3, v4], []⟩ = pure () := by kernel_rfl
theorem newCall_zip_4 (v1 v2 v3 v4 : Value) : checkBuiltinCall "zip.__new__" ⟨[.type "zip", v1, v2, v3, v4], []⟩ = pure () := by kernel_rfl
theorem args_object_init_5 (a v1 v2 v3 v4 : Value) : argsOk "object.__init__" ⟨[a, v1, v2, v3, v4], []⟩ := by
  unfold argsOk; rw [signature?_of (id := "object.__init__") (n := ['_', '_', 't', 'i', 'n', 'i', '_', '_']) (o := ['t', 'c', 'e', 'j', 'b', 'o']) (by kernel_rfl) F.owner_object]; kernel_rfl
abbrev zh4_0 (h : Heap) (t1 : Bool) (l1 : Addr) (t2 : Bool) (l2 : Addr) (t3 : Bool) (l3 : Addr) (t4 : Bool) (l4 : Addr) : Heap := h
abbrev zh4_1 (h : Heap) (t1 : Bool) (l1 : Addr) (t2 : Bool) (l2 : Addr) (t3 : Bool) (l3 : Addr) (t4 : Bool) (l4 : Addr) : Heap := (zh4_0 h t1 l1 t2 l2 t3 l3 t4 l4).push (itObj t1 l1)
abbrev zh4_2 (h : Heap) (t1 : Bool) (l1 : Addr) (t2 : Bool) (l2 : Addr) (t3 : Bool) (l3 : Addr) (t4 : Bool) (l4 : Addr) : Heap := (zh4_1 h t1 l1 t2 l2 t3 l3 t4 l4).push (itObj t2 l2)
abbrev zh4_3 (h : Heap) (t1 : Bool) (l1 : Addr) (t2 : Bool) (l2 : Addr) (t3 : Bool) (l3 : Addr) (t4 : Bool) (l4 : Addr) : Heap := (zh4_2 h t1 l1 t2 l2 t3 l3 t4 l4).push (itObj t3 l3)
abbrev zh4_4 (h : Heap) (t1 : Bool) (l1 : Addr) (t2 : Bool) (l2 : Addr) (t3 : Bool) (l3 : Addr) (t4 : Bool) (l4 : Addr) : Heap := (zh4_3 h t1 l1 t2 l2 t3 l3 t4 l4).push (itObj t4 l4)
abbrev zh4_5 (h : Heap) (t1 : Bool) (l1 : Addr) (t2 : Bool) (l2 : Addr) (t3 : Bool) (l3 : Addr) (t4 : Bool) (l4 : Addr) : Heap := (zh4_4 h t1 l1 t2 l2 t3 l3 t4 l4).push { cls := .type "tuple", data := .seq #[.ref (zh4_0 h t1 l1 t2 l2 t3 l3 t4 l4).objs.size, .ref (zh4_1 h t1 l1 t2 l2 t3 l3 t4 l4).objs.size, .ref (zh4_2 h t1 l1 t2 l2 t3 l3 t4 l4).objs.size, .ref (zh4_3 h t1 l1 t2 l2 t3 l3 t4 l4).objs.size] }
abbrev zh4_6 (h : Heap) (t1 : Bool) (l1 : Addr) (t2 : Bool) (l2 : Addr) (t3 : Bool) (l3 : Addr) (t4 : Bool) (l4 : Addr) : Heap := (zh4_5 h t1 l1 t2 l2 t3 l3 t4 l4).push { cls := .type "tuple", data := .seq #[.none, .none, .none, .none] }
abbrev zh4_7 (h : Heap) (t1 : Bool) (l1 : Addr) (t2 : Bool) (l2 : Addr) (t3 : Bool) (l3 : Addr) (t4 : Bool) (l4 : Addr) : Heap := (zh4_6 h t1 l1 t2 l2 t3 l3 t4 l4).push { cls := .type "zip", data := .fields #[.none, .bool false, .bool false, .ref (zh4_4 h t1 l1 t2 l2 t3 l3 t4 l4).objs.size, .ref (zh4_5 h t1 l1 t2 l2 t3 l3 t4 l4).objs.size] }
theorem meets_zipN_4 (t1 t2 t3 t4 : Bool) (l1 l2 l3 l4 : Addr) (x1 x2 x3 x4 : Array Value) :
    Meets (Builtin.«zip.__new__» ⟨[.type "zip", .ref l1, .ref l2, .ref l3, .ref l4], []⟩) (fun _ R s => IsSq s.heap t1 l1 x1 ∧ IsSq s.heap t2 l2 x2 ∧ IsSq s.heap t3 l3 x3 ∧ IsSq s.heap t4 l4 x4 ∧
      R (.ok (.ret (.ref (zh4_6 s.heap t1 l1 t2 l2 t3 l3 t4 l4).objs.size))) { s with heap := zh4_7 s.heap t1 l1 t2 l2 t3 l3 t4 l4 }) :=
  .of_wp fun prog w A R s h => by
    obtain ⟨hp, g, d, tk, os⟩ := s; obtain ⟨k1, k2, k3, k4, h⟩ := h
    have hsub := sub_zip
    have K1 : IsSq (Shared.heap ⟨zh4_0 hp t1 l1 t2 l2 t3 l3 t4 l4, g, d, tk, os⟩) t1 l1 x1 := k1
    have K2 : IsSq (Shared.heap ⟨zh4_1 hp t1 l1 t2 l2 t3 l3 t4 l4, g, d, tk, os⟩) t2 l2 x2 := (k2.push _)
    have K3 : IsSq (Shared.heap ⟨zh4_2 hp t1 l1 t2 l2 t3 l3 t4 l4, g, d, tk, os⟩) t3 l3 x3 := ((k3.push _).push _)
    have K4 : IsSq (Shared.heap ⟨zh4_3 hp t1 l1 t2 l2 t3 l3 t4 l4, g, d, tk, os⟩) t4 l4 x4 := (((k4.push _).push _).push _)
    wp_walk using pyIter_sq K1, pyIter_sq K2, pyIter_sq K3, pyIter_sq K4
    exact ⟨_, rfl, h⟩
section
variable {prog : Program} {w : World} {A : Around} {E : Value → Shared → Prop} {s : Shared}
theorem call_zipN_4 {t1 t2 t3 t4 : Bool} {l1 l2 l3 l4 : Addr} {x1 x2 x3 x4 : Array Value} {Q : Value → Shared → Prop} (k1 : IsSq s.heap t1 l1 x1) (k2 : IsSq s.heap t2 l2 x2) (k3 : IsSq s.heap t3 l3 x3) (k4 : IsSq s.heap t4 l4 x4)
    (h : ∀ h', IsZip h' (s.heap.objs.size + 6) (s.heap.objs.size + 4) (s.heap.objs.size + 5) .none → IsTV h' (s.heap.objs.size + 4) (([⟨t1, s.heap.objs.size, l1⟩, ⟨t2, s.heap.objs.size + 1, l2⟩, ⟨t3, s.heap.objs.size + 2, l3⟩, ⟨t4, s.heap.objs.size + 3, l4⟩] : List Zs).map fun c => Value.ref c.it).toArray → IsTV h' (s.heap.objs.size + 5) #[.none, .none, .none, .none] → (∀ c ∈ ([⟨t1, s.heap.objs.size, l1⟩, ⟨t2, s.heap.objs.size + 1, l2⟩, ⟨t3, s.heap.objs.size + 2, l3⟩, ⟨t4, s.heap.objs.size + 3, l4⟩] : List Zs), IsIt h' c.t c.it c.l 0) →
      (∀ c o, s.heap.get? c = some o → h'.get? c = some o) → Q (.ref (s.heap.objs.size + 6)) { s with heap := h' }) :
    wpAny (model prog w) A (call (.type "zip") [.ref l1, .ref l2, .ref l3, .ref l4]) Q E s := by
  refine callType_new F.called_zip (by decide) (typeCall_zip_4 _ _ _ _) (newCall_zip_4 _ _ _ _) (fun obj => args_object_init_5 obj _ _ _ _) F.entry_zip_new
    (meets_zipN_4 t1 t2 t3 t4 l1 l2 l3 l4 x1 x2 x3 x4) ⟨k1, k2, k3, k4, ?_⟩
  have z1 : (zh4_1 s.heap t1 l1 t2 l2 t3 l3 t4 l4).objs.size = s.heap.objs.size + 1 := Heap.size_push ..
  have z2 : (zh4_2 s.heap t1 l1 t2 l2 t3 l3 t4 l4).objs.size = s.heap.objs.size + 2 := by rw [Heap.size_push, z1]
  have z3 : (zh4_3 s.heap t1 l1 t2 l2 t3 l3 t4 l4).objs.size = s.heap.objs.size + 3 := by rw [Heap.size_push, z2]
  have z4 : (zh4_4 s.heap t1 l1 t2 l2 t3 l3 t4 l4).objs.size = s.heap.objs.size + 4 := by rw [Heap.size_push, z3]
  have z5 : (zh4_5 s.heap t1 l1 t2 l2 t3 l3 t4 l4).objs.size = s.heap.objs.size + 5 := by rw [Heap.size_push, z4]
  have z6 : (zh4_6 s.heap t1 l1 t2 l2 t3 l3 t4 l4).objs.size = s.heap.objs.size + 6 := by rw [Heap.size_push, z5]
  have g1 : (zh4_7 s.heap t1 l1 t2 l2 t3 l3 t4 l4).get? (zh4_0 s.heap t1 l1 t2 l2 t3 l3 t4 l4).objs.size = some _ := Heap.get?_push_of_some _ (Heap.get?_push_of_some _ (Heap.get?_push_of_some _ (Heap.get?_push_of_some _ (Heap.get?_push_of_some _ (Heap.get?_push_of_some _ (Heap.get?_push_size _ (itObj_fr _ _)))))))
  have g2 : (zh4_7 s.heap t1 l1 t2 l2 t3 l3 t4 l4).get? (zh4_1 s.heap t1 l1 t2 l2 t3 l3 t4 l4).objs.size = some _ := Heap.get?_push_of_some _ (Heap.get?_push_of_some _ (Heap.get?_push_of_some _ (Heap.get?_push_of_some _ (Heap.get?_push_of_some _ (Heap.get?_push_size _ (itObj_fr _ _))))))
  have g3 : (zh4_7 s.heap t1 l1 t2 l2 t3 l3 t4 l4).get? (zh4_2 s.heap t1 l1 t2 l2 t3 l3 t4 l4).objs.size = some _ := Heap.get?_push_of_some _ (Heap.get?_push_of_some _ (Heap.get?_push_of_some _ (Heap.get?_push_of_some _ (Heap.get?_push_size _ (itObj_fr _ _)))))
  have g4 : (zh4_7 s.heap t1 l1 t2 l2 t3 l3 t4 l4).get? (zh4_3 s.heap t1 l1 t2 l2 t3 l3 t4 l4).objs.size = some _ := Heap.get?_push_of_some _ (Heap.get?_push_of_some _ (Heap.get?_push_of_some _ (Heap.get?_push_size _ (itObj_fr _ _))))
  have g5 : (zh4_7 s.heap t1 l1 t2 l2 t3 l3 t4 l4).get? (zh4_4 s.heap t1 l1 t2 l2 t3 l3 t4 l4).objs.size = some _ := Heap.get?_push_of_some _ (Heap.get?_push_of_some _ (Heap.get?_push_size _ rfl))
  have g6 : (zh4_7 s.heap t1 l1 t2 l2 t3 l3 t4 l4).get? (zh4_5 s.heap t1 l1 t2 l2 t3 l3 t4 l4).objs.size = some _ := Heap.get?_push_of_some _ (Heap.get?_push_size _ rfl)
  have g7 : (zh4_7 s.heap t1 l1 t2 l2 t3 l3 t4 l4).get? (zh4_6 s.heap t1 l1 t2 l2 t3 l3 t4 l4).objs.size = some _ := Heap.get?_push_size _ rfl
  show _ ∧ _
  rw [z1] at g2
  rw [z2] at g3
  rw [z3] at g4
  rw [z1, z2, z3, z4] at g5
  rw [z5] at g6
  rw [z4, z5, z6] at g7
  rw [z6]
  refine ⟨⟨_, g7, rfl⟩, h _ g7 g5 g6 (fun c hc => ?_) fun c o x => Heap.get?_push_of_some _ (Heap.get?_push_of_some _ (Heap.get?_push_of_some _ (Heap.get?_push_of_some _ (Heap.get?_push_of_some _ (Heap.get?_push_of_some _ (Heap.get?_push_of_some _ (x)))))))⟩
  simp only [List.mem_cons, List.not_mem_nil, or_false] at hc
  rcases hc with rfl | rfl | rfl | rfl
  · exact itObj_is g1
  · exact itObj_is g2
  · exact itObj_is g3
  · exact itObj_is g4
end
def iZipN (K : PySem.W.Frag) (ta : TA) : TI := fun σ H R => ta σ H fun vs H1 => ∃ cs : List (Bool × Addr), vs = cs.map (fun c => V.ref c.2) ∧ (cs.length = 2 ∨ cs.length = 3 ∨ cs.length = 4) ∧ (∀ c ∈ cs, ∃ xs, Sq2 K H1 c.1 c.2 xs) ∧ R (ItzN K cs) H1
theorem mem_range_map {N n : Nat} {a : Nat} (h : a ∈ (List.range n).map (N + ·)) : a < N + n ∧ N ≤ a := by
  obtain ⟨i, hi, rfl⟩ := List.mem_map.mp h
  have := List.mem_range.mp hi
  omega
theorem nodup_range_map (N n : Nat) : ((List.range n).map (N + ·)).Nodup := by
  rw [List.nodup_iff_pairwise_ne, List.pairwise_map]
  exact (List.nodup_iff_pairwise_ne.mp List.nodup_range).imp fun h => by omega
theorem apart_nat {N n : Nat} {l : List Nat} (h : l = (List.range n).map (N + ·)) : ((N + (n + 2)) :: (N + n) :: (N + (n + 1)) :: l).Nodup ∧ ∀ a : Nat, a < N → a ∉ (N + (n + 2)) :: (N + n) :: (N + (n + 1)) :: l := by
  subst h
  refine ⟨?_, fun a ha q => ?_⟩
  · refine List.nodup_cons.mpr ⟨fun q => ?_, List.nodup_cons.mpr ⟨fun q => ?_, List.nodup_cons.mpr ⟨fun q => ?_, nodup_range_map N n⟩⟩⟩
    · rcases List.mem_cons.mp q with q | q
      · omega
      rcases List.mem_cons.mp q with q | q
      · omega
      have := mem_range_map q
      omega
    · rcases List.mem_cons.mp q with q | q
      · omega
      have := mem_range_map q
      omega
    · have := mem_range_map q
      omega
  · rcases List.mem_cons.mp q with q | q
    · omega
    rcases List.mem_cons.mp q with q | q
    · omega
    rcases List.mem_cons.mp q with q | q
    · omega
    have := mem_range_map q
    omega
theorem apart_of {N : Nat} {zs : List Zs} {n : Nat} (h : zits zs = (List.range n).map (N + ·)) (hl : ∀ c ∈ zs, c.l < N) : ZApart (N + (n + 2)) (N + n) (N + (n + 1)) zs :=
  ⟨(apart_nat (l := zits zs) h).1, fun c hc => (apart_nat (l := zits zs) h).2 c.l (hl c hc)⟩
theorem fresh_nat {N n : Nat} {l : List Nat} (h : l = (List.range n).map (N + ·)) : ∀ c : Nat, c ∈ (N + (n + 2)) :: (N + n) :: (N + (n + 1)) :: l → N ≤ c := fun c hc => by
  subst h
  rcases List.mem_cons.mp hc with q | hc
  · omega
  rcases List.mem_cons.mp hc with q | hc
  · omega
  rcases List.mem_cons.mp hc with q | hc
  · omega
  exact (mem_range_map hc).2
theorem pi_zipN {X : Cx} {e : Expr} {es : List Expr} {ta : TA} {p pos tpos : Pos} {elts : List Expr} {kk : Nat} (hg : Gl X "zip") (hm : X.mg "zip" = none) (ha : PA X (e :: es) ta)
    (hs : starEach (e :: es) X.env = (false, eval e X.env) :: starEach es X.env := by rfl) (hpl : (backTo pos (starEach es X.env)).any (·.1) = false := by rfl) :
    PI X (.Tuple elts kk tpos) (.Call (.Name "zip" p) (e :: es) [] pos) (iZipN X.K ta) := by
  refine ⟨fun pins s σ H R I h => ?_⟩
  refine Call_ (ld_blt I hg hm PyProof.Rows.boot_zip (PyProof.Rows.callWith_type1 (thn (ha.run pos pins s σ H _ I h) fun us s1 ⟨vs, H1, I1, r1, q1⟩ => ?_) hs hpl))
  obtain ⟨cs, ex, hlen, hsq, q1⟩ := q1
  subst ex
  have lt : ∀ c ∈ cs, ∃ xs, IsSq s1.heap c.1 c.2 xs := fun c hc => by
    obtain ⟨xs, hx⟩ := hsq c hc
    obtain ⟨its, _, p⟩ := inv_sq I1 hx
    exact ⟨_, p⟩
  have lo : ∀ c ∈ cs, c.2 < s1.heap.objs.size := fun c hc => by
    obtain ⟨xs, hx⟩ := lt c hc
    obtain ⟨o, ho⟩ := hx.there
    exact Heap.lt_size ho
  have fresh : ∀ (n : Nat) (zs : List Zs), zits zs = (List.range n).map (s1.heap.objs.size + ·) → ∀ c ∈ (s1.heap.objs.size + (n + 2)) :: (s1.heap.objs.size + n) :: (s1.heap.objs.size + (n + 1)) :: zits zs, FpOk X pins H1 c := fun n zs hz c hc => by
    have hle : s1.heap.objs.size ≤ c := fresh_nat (l := zits zs) hz c hc
    exact I1.fpOk hle (I1.hok.fresh hle)
  match cs, hlen with
  | [c1, c2], _ =>
    cases r1 with
    | cons r r1 =>
    cases r
    cases r1 with
    | cons r r1 =>
    cases r
    cases r1
    obtain ⟨x1, k1⟩ := lt c1 (by simp)
    obtain ⟨x2, k2⟩ := lt c2 (by simp)
    refine call_zipN_2 k1 k2 fun h' hz hTI hTO h1 hk => wpAny_pyIter_zip hz ?_
    have I2 : Inv X pins σ H1 { s1 with heap := h' } := I1.kept (t' := s1.toks) hk
    have D := apart_of (n := 2) (N := s1.heap.objs.size) (zs := [⟨c1.1, s1.heap.objs.size, c1.2⟩, ⟨c2.1, s1.heap.objs.size + 1, c2.2⟩]) rfl (fun c hc => by
      simp only [List.mem_cons, List.not_mem_nil, or_false] at hc
      rcases hc with rfl | rfl
      · exact lo c1 (by simp)
      · exact lo c2 (by simp))
    exact ⟨s1.heap.objs.size + 4, _, _, _, H1, rfl, I2, turn_zipN D (by simp) (by simp), ⟨hz, hTI, ⟨_, hTO, rfl⟩, h1⟩, fresh 2 _ rfl, q1⟩
  | [c1, c2, c3], _ =>
    cases r1 with
    | cons r r1 =>
    cases r
    cases r1 with
    | cons r r1 =>
    cases r
    cases r1 with
    | cons r r1 =>
    cases r
    cases r1
    obtain ⟨x1, k1⟩ := lt c1 (by simp)
    obtain ⟨x2, k2⟩ := lt c2 (by simp)
    obtain ⟨x3, k3⟩ := lt c3 (by simp)
    refine call_zipN_3 k1 k2 k3 fun h' hz hTI hTO h1 hk => wpAny_pyIter_zip hz ?_
    have I2 : Inv X pins σ H1 { s1 with heap := h' } := I1.kept (t' := s1.toks) hk
    have D := apart_of (n := 3) (N := s1.heap.objs.size) (zs := [⟨c1.1, s1.heap.objs.size, c1.2⟩, ⟨c2.1, s1.heap.objs.size + 1, c2.2⟩, ⟨c3.1, s1.heap.objs.size + 2, c3.2⟩]) rfl (fun c hc => by
      simp only [List.mem_cons, List.not_mem_nil, or_false] at hc
      rcases hc with rfl | rfl | rfl
      · exact lo c1 (by simp)
      · exact lo c2 (by simp)
      · exact lo c3 (by simp))
    exact ⟨s1.heap.objs.size + 5, _, _, _, H1, rfl, I2, turn_zipN D (by simp) (by simp), ⟨hz, hTI, ⟨_, hTO, rfl⟩, h1⟩, fresh 3 _ rfl, q1⟩
  | [c1, c2, c3, c4], _ =>
    cases r1 with
    | cons r r1 =>
    cases r
    cases r1 with
    | cons r r1 =>
    cases r
    cases r1 with
    | cons r r1 =>
    cases r
    cases r1 with
    | cons r r1 =>
    cases r
    cases r1
    obtain ⟨x1, k1⟩ := lt c1 (by simp)
    obtain ⟨x2, k2⟩ := lt c2 (by simp)
    obtain ⟨x3, k3⟩ := lt c3 (by simp)
    obtain ⟨x4, k4⟩ := lt c4 (by simp)
    refine call_zipN_4 k1 k2 k3 k4 fun h' hz hTI hTO h1 hk => wpAny_pyIter_zip hz ?_
    have I2 : Inv X pins σ H1 { s1 with heap := h' } := I1.kept (t' := s1.toks) hk
    have D := apart_of (n := 4) (N := s1.heap.objs.size) (zs := [⟨c1.1, s1.heap.objs.size, c1.2⟩, ⟨c2.1, s1.heap.objs.size + 1, c2.2⟩, ⟨c3.1, s1.heap.objs.size + 2, c3.2⟩, ⟨c4.1, s1.heap.objs.size + 3, c4.2⟩]) rfl (fun c hc => by
      simp only [List.mem_cons, List.not_mem_nil, or_false] at hc
      rcases hc with rfl | rfl | rfl | rfl
      · exact lo c1 (by simp)
      · exact lo c2 (by simp)
      · exact lo c3 (by simp)
      · exact lo c4 (by simp))
    exact ⟨s1.heap.objs.size + 6, _, _, _, H1, rfl, I2, turn_zipN D (by simp) (by simp), ⟨hz, hTI, ⟨_, hTO, rfl⟩, h1⟩, fresh 4 _ rfl, q1⟩
  | [], h => simp at h
  | [_], h => simp at h
  | _ :: _ :: _ :: _ :: _ :: _, h => simp at h

/-! ### the mirror: values, memory, and how they stand for what is in the heap -/
inductive D where
  | non
  | bl (b : Bool)
  | int (i : Int)
  | str (x : Str)
  | ty (n : String)
  | fn (n : Nat)
  | tup (xs : List D)
  | rol (xs : List D)
  | rf (i : Nat)
/-- the written part, and where defs and classes stand by their numbers -/
structure Kx where
  K : PySem.W.Frag
  Γ : Nat → Addr
inductive Cell where
  | lst (xs : List D)
  | dK (kvs : List (Key × D))
  | ins (c : Nat) (fs : List (Str × D))
abbrev Mem := List Cell
abbrev Rho := List (Option D)
/-- a tuple, a list that stands for good -/
def TupS (K : Kx) (H : Hp) (a : Addr) (xs : List V) : Prop := H a = some (.tup xs) ∨ ∀ H', SqT K.K H' a xs
def RolS (K : Kx) (H : Hp) (a : Addr) (xs : List V) : Prop := (∃ o, H a = some (.frz o (.lst xs))) ∨ ∀ H', SqL K.K H' a xs
mutual
inductive VR (K : Kx) (as : List Addr) (H : Hp) : V → D → Prop
  | non : VR K as H .non .non
  | bl (b : Bool) : VR K as H (.bl b) (.bl b)
  | int (i : Int) : VR K as H (.int i) (.int i)
  | str (x : Str) : VR K as H (.str x) (.str x)
  | ty (n : String) : VR K as H (.ty n) (.ty n)
  | fn (n : Nat) : VR K as H (.ref (K.Γ n)) (.fn n)
  | tup {a : Addr} {xs : List V} {ds : List D} : TupS K H a xs → VRs K as H xs ds → VR K as H (.ref a) (.tup ds)
  | rol {a : Addr} {xs : List V} {ds : List D} : RolS K H a xs → VRs K as H xs ds → VR K as H (.ref a) (.rol ds)
  | rf {i : Nat} {a : Addr} : as[i]? = some a → VR K as H (.ref a) (.rf i)
inductive VRs (K : Kx) (as : List Addr) (H : Hp) : List V → List D → Prop
  | nil : VRs K as H [] []
  | cons {v : V} {vs : List V} {d : D} {ds : List D} : VR K as H v d → VRs K as H vs ds → VRs K as H (v :: vs) (d :: ds)
end
/-- the heap grows: what is tracked by the memory may change, all else stays -/
structure Gr (as : List Addr) (H : Hp) (as' : List Addr) (H' : Hp) : Prop where
  app : ∃ t, as' = as ++ t
  live : ∀ a o, H a = some o → ∃ o', H' a = some o'
  keep : ∀ a o, H a = some o → a ∉ as → H' a = some o
  fresh : ∀ a, a ∈ as' → a ∉ as → H a = none
  tup : ∀ a xs, H a = some (.tup xs) → H' a = some (.tup xs)
  frz : ∀ a o u, H a = some (.frz o u) → H' a = some (.frz o u)
section
variable {K : Kx} {as as' as1 as2 : List Addr} {H H' H1 H2 : Hp}
theorem Gr.refl : Gr as H as H := ⟨⟨[], by simp⟩, fun _ o h => ⟨o, h⟩, fun _ _ h _ => h, fun _ h n => absurd h n, fun _ _ h => h, fun _ _ _ h => h⟩
theorem Gr.trans (g : Gr as H as1 H1) (k : Gr as1 H1 as2 H2) : Gr as H as2 H2 where
  app := by
    obtain ⟨t, rfl⟩ := g.app
    obtain ⟨u, rfl⟩ := k.app
    exact ⟨t ++ u, by simp⟩
  live := fun a o h => let ⟨o1, h1⟩ := g.live a o h; k.live a o1 h1
  keep := fun a o h n => by
    by_cases m : a ∈ as1
    · have := g.fresh a m n
      rw [h] at this; cases this
    · exact k.keep a o (g.keep a o h n) m
  fresh := fun a m n => by
    by_cases m1 : a ∈ as1
    · exact g.fresh a m1 n
    · have h1 := k.fresh a m m1
      cases e : H a with
      | none => rfl
      | some o =>
        obtain ⟨o1, q⟩ := g.live a o e
        rw [h1] at q; cases q
  tup := fun a xs h => k.tup a xs (g.tup a xs h)
  frz := fun a o u h => k.frz a o u (g.frz a o u h)
/-- as much of it as values need -/
structure Gv (as : List Addr) (H : Hp) (as' : List Addr) (H' : Hp) : Prop where
  app : ∃ t, as' = as ++ t
  tup : ∀ a xs, H a = some (.tup xs) → H' a = some (.tup xs)
  frz : ∀ a o u, H a = some (.frz o u) → H' a = some (.frz o u)
theorem Gr.gv (g : Gr as H as' H') : Gv as H as' H' := ⟨g.app, g.tup, g.frz⟩
theorem Gv.get (g : Gv as H as' H') {i : Nat} {a : Addr} (h : as[i]? = some a) : as'[i]? = some a := by
  obtain ⟨t, rfl⟩ := g.app
  rw [List.getElem?_append_left (List.getElem?_eq_some_iff.mp h).1]
  exact h
theorem TupS.gv (g : Gv as H as' H') {a : Addr} {xs : List V} (h : TupS K H a xs) : TupS K H' a xs := h.elim (fun h => .inl (g.tup _ _ h)) .inr
theorem TupS.sq {a : Addr} {xs : List V} (h : TupS K H a xs) : SqT K.K H a xs := h.elim SqT.of fun h => h H
theorem RolS.gv (g : Gv as H as' H') {a : Addr} {xs : List V} (h : RolS K H a xs) : RolS K H' a xs := h.elim (fun ⟨o, h⟩ => .inl ⟨o, g.frz _ _ _ h⟩) .inr
theorem RolS.sq {a : Addr} {xs : List V} (h : RolS K H a xs) : SqL K.K H a xs := h.elim (fun ⟨o, h⟩ => .inl (.inr ⟨o, h⟩)) fun h => h H
mutual
theorem VR.gv (g : Gv as H as' H') : ∀ {v : V} {d : D}, VR K as H v d → VR K as' H' v d
  | _, _, .non => .non
  | _, _, .bl b => .bl b
  | _, _, .int i => .int i
  | _, _, .str x => .str x
  | _, _, .ty n => .ty n
  | _, _, .fn a => .fn a
  | _, _, .tup h hs => .tup (h.gv g) (VRs.gv g hs)
  | _, _, .rol h hs => .rol (h.gv g) (VRs.gv g hs)
  | _, _, .rf h => .rf (g.get h)
theorem VRs.gv (g : Gv as H as' H') : ∀ {vs : List V} {ds : List D}, VRs K as H vs ds → VRs K as' H' vs ds
  | _, _, .nil => .nil
  | _, _, .cons h hs => .cons (VR.gv g h) (VRs.gv g hs)
end
theorem VR.gr (g : Gr as H as' H') {v : V} {d : D} (h : VR K as H v d) : VR K as' H' v d := h.gv g.gv
theorem VRs.gr (g : Gr as H as' H') {vs : List V} {ds : List D} (h : VRs K as H vs ds) : VRs K as' H' vs ds := h.gv g.gv
theorem VRs.len : ∀ {vs : List V} {ds : List D}, VRs K as H vs ds → vs.length = ds.length
  | _, _, .nil => rfl
  | _, _, .cons _ hs => congrArg (· + 1) (VRs.len hs)
theorem VRs.get : ∀ {vs : List V} {ds : List D} {j : Nat} {d : D}, VRs K as H vs ds → ds[j]? = some d → ∃ v, vs[j]? = some v ∧ VR K as H v d
  | _, _, _, _, .nil, e => by simp at e
  | _, _, 0, _, .cons h _, e => by
    simp at e
    subst e
    exact ⟨_, rfl, h⟩
  | _, _, j + 1, _, .cons _ hs, e => by
    obtain ⟨v, h1, h2⟩ := VRs.get (j := j) hs (by simpa using e)
    exact ⟨v, by simpa using h1, h2⟩
theorem VRs.get' : ∀ {vs : List V} {ds : List D} {j : Nat} {v : V}, VRs K as H vs ds → vs[j]? = some v → ∃ d, ds[j]? = some d ∧ VR K as H v d
  | _, _, _, _, .nil, e => by simp at e
  | _, _, 0, _, .cons h _, e => by
    simp at e
    subst e
    exact ⟨_, rfl, h⟩
  | _, _, j + 1, _, .cons _ hs, e => by
    obtain ⟨v, h1, h2⟩ := VRs.get' (j := j) hs (by simpa using e)
    exact ⟨v, by simpa using h1, h2⟩
theorem VRs.append : ∀ {xs ys : List V} {ds es : List D}, VRs K as H xs ds → VRs K as H ys es → VRs K as H (xs ++ ys) (ds ++ es)
  | _, _, _, _, .nil, s => s
  | _, _, _, _, .cons r t, s => .cons r (VRs.append t s)
theorem VRs.take : ∀ {xs : List V} {ds : List D} (n : Nat), VRs K as H xs ds → VRs K as H (xs.take n) (ds.take n)
  | _, _, 0, _ => by simpa using VRs.nil
  | _, _, _ + 1, .nil => .nil
  | _, _, n + 1, .cons r t => .cons r (VRs.take n t)
theorem VRs.drop : ∀ {xs : List V} {ds : List D} (n : Nat), VRs K as H xs ds → VRs K as H (xs.drop n) (ds.drop n)
  | _, _, 0, r => r
  | _, _, _ + 1, .nil => .nil
  | _, _, n + 1, .cons _ t => VRs.drop n t
theorem VRs.set {x : V} {d : D} (r : VR K as H x d) : ∀ {xs : List V} {ds : List D} (i : Nat), VRs K as H xs ds → VRs K as H (xs.set i x) (ds.set i d)
  | _, _, _, .nil => .nil
  | _, _, 0, .cons _ t => .cons r t
  | _, _, i + 1, .cons q t => .cons q (VRs.set r i t)
theorem VRs.rev : ∀ {xs : List V} {ds : List D}, VRs K as H xs ds → VRs K as H xs.reverse ds.reverse
  | _, _, .nil => .nil
  | _, _, .cons r t => by
    rw [List.reverse_cons, List.reverse_cons]
    exact (VRs.rev t).append (.cons r .nil)
theorem VRs.isEmpty {xs : List V} {ds : List D} (h : VRs K as H xs ds) : xs.isEmpty = ds.isEmpty := by
  cases h <;> rfl
theorem VRs.nil_iff {xs : List V} {ds : List D} (h : VRs K as H xs ds) : xs = [] ↔ ds = [] := by
  cases h <;> simp
def CRel (K : Kx) (as : List Addr) (H : Hp) (a : Addr) : Cell → Prop
  | .lst ds => ∃ xs, H a = some (.lst xs) ∧ VRs K as H xs ds
  | .dK kds => ∃ kvs, H a = some (.dK kvs) ∧ kvs.map (·.1) = kds.map (·.1) ∧ VRs K as H (kvs.map (·.2)) (kds.map (·.2))
  | .ins c fds => ∃ dx fs, H a = some (.ins (K.Γ c) dx fs) ∧ fs.map (·.1) = fds.map (·.1) ∧ VRs K as H (fs.map (·.2)) (fds.map (·.2))
theorem CRel.gv (g : Gv as H as' H') {a : Addr} (e : H' a = H a) : ∀ {c : Cell}, CRel K as H a c → CRel K as' H' a c
  | .lst _, ⟨xs, h, r⟩ => ⟨xs, e.trans h, r.gv g⟩
  | .dK _, ⟨kvs, h, k, r⟩ => ⟨kvs, e.trans h, k, r.gv g⟩
  | .ins _ _, ⟨dx, fs, h, k, r⟩ => ⟨dx, fs, e.trans h, k, r.gv g⟩
theorem CRel.gr (g : Gr as H as' H') {a : Addr} (e : H' a = H a) {c : Cell} (h : CRel K as H a c) : CRel K as' H' a c := h.gv g.gv e
/-- what a cell's place holds is no tuple and nothing locked -/
theorem CRel.there {a : Addr} : ∀ {c : Cell}, CRel K as H a c → ∃ o, H a = some o ∧ (∀ xs, o ≠ .tup xs) ∧ ∀ p u, o ≠ .frz p u
  | .lst _, ⟨_, h, _⟩ => ⟨_, h, fun _ z => (nomatch z), fun _ _ z => (nomatch z)⟩
  | .dK _, ⟨_, h, _⟩ => ⟨_, h, fun _ z => (nomatch z), fun _ _ z => (nomatch z)⟩
  | .ins _ _, ⟨_, _, h, _⟩ => ⟨_, h, fun _ z => (nomatch z), fun _ _ z => (nomatch z)⟩
structure MR (K : Kx) (as : List Addr) (H : Hp) (M : Mem) : Prop where
  len : as.length = M.length
  nd : as.Nodup
  cell : ∀ (i : Nat) (a : Addr) (c : Cell), as[i]? = some a → M[i]? = some c → CRel K as H a c
variable {M : Mem}
theorem MR.nil : MR K [] H [] := ⟨rfl, List.nodup_nil, fun _ _ _ h => by simp at h⟩
theorem MR.at (m : MR K as H M) {i : Nat} {a : Addr} (h : as[i]? = some a) : ∃ c, M[i]? = some c ∧ CRel K as H a c := by
  have hi : i < M.length := by rw [← m.len]; exact (List.getElem?_eq_some_iff.mp h).1
  exact ⟨M[i], List.getElem?_eq_getElem hi, m.cell i a _ h (List.getElem?_eq_getElem hi)⟩
theorem MR.get (m : MR K as H M) {i : Nat} {c : Cell} (h : M[i]? = some c) : ∃ a, as[i]? = some a ∧ CRel K as H a c := by
  have hi : i < as.length := by rw [m.len]; exact (List.getElem?_eq_some_iff.mp h).1
  exact ⟨as[i], List.getElem?_eq_getElem hi, m.cell i _ c (List.getElem?_eq_getElem hi) h⟩
theorem MR.there (m : MR K as H M) {a : Addr} (h : a ∈ as) : ∃ o, H a = some o ∧ (∀ xs, o ≠ .tup xs) ∧ ∀ p u, o ≠ .frz p u := by
  obtain ⟨i, hi⟩ := List.getElem?_of_mem h
  obtain ⟨c, _, r⟩ := m.at hi
  exact r.there
theorem MR.keepv (m : MR K as H M) (g : Gv as H as H') (e : ∀ a ∈ as, H' a = H a) : MR K as H' M :=
  ⟨m.len, m.nd, fun i a c h1 h2 => (m.cell i a c h1 h2).gv g (e a (List.mem_of_getElem? h1))⟩
theorem MR.keep (m : MR K as H M) (g : Gr as H as H') (e : ∀ a ∈ as, H' a = H a) : MR K as H' M := m.keepv g.gv e
/-- a new object that the memory doesn't track -/
theorem Gr.new {p : Addr} {o : HO} (hp : H p = none) : Gr as H as (upd H p o) where
  app := ⟨[], by simp⟩
  live := fun a u h => ⟨u, by rw [upd_ne (ne_of_none h hp)]; exact h⟩
  keep := fun a u h _ => by rw [upd_ne (ne_of_none h hp)]; exact h
  fresh := fun a h n => absurd h n
  tup := fun a xs h => by rw [upd_ne (ne_of_none h hp)]; exact h
  frz := fun a u xs h => by rw [upd_ne (ne_of_none h hp)]; exact h
theorem MR.new (m : MR K as H M) {p : Addr} {o : HO} (hp : H p = none) : MR K as (upd H p o) M :=
  m.keep (Gr.new hp) fun a h => by
    obtain ⟨u, e, _⟩ := m.there h
    rw [upd_ne (ne_of_none e hp)]
/-- a new object that the memory tracks -/
theorem Gr.alloc {p : Addr} {o : HO} (hp : H p = none) : Gr as H (as ++ [p]) (upd H p o) where
  app := ⟨[p], rfl⟩
  live := (Gr.new (as := as) hp).live
  keep := (Gr.new (as := as) hp).keep
  fresh := fun a h n => by
    rcases List.mem_append.mp h with h | h
    · exact absurd h n
    · rw [List.mem_singleton.mp h]; exact hp
  tup := (Gr.new (as := as) hp).tup
  frz := (Gr.new (as := as) hp).frz
theorem MR.alloc (m : MR K as H M) {p : Addr} {o : HO} {c : Cell} (hp : H p = none) (hc : CRel K (as ++ [p]) (upd H p o) p c) : MR K (as ++ [p]) (upd H p o) (M ++ [c]) := by
  have np : p ∉ as := fun h => by
    obtain ⟨u, e, _⟩ := m.there h
    rw [hp] at e; cases e
  refine ⟨by simp [m.len], ?_, fun i a c' h1 h2 => ?_⟩
  · rw [List.nodup_append]
    exact ⟨m.nd, by simp, fun a ha b hb z => by
      rw [List.mem_singleton.mp hb] at z
      subst z
      exact np ha⟩
  · by_cases hi : i < as.length
    · rw [List.getElem?_append_left hi] at h1
      rw [List.getElem?_append_left (by rw [← m.len]; exact hi)] at h2
      obtain ⟨u, e, _⟩ := m.there (List.mem_of_getElem? h1)
      exact (m.cell i a c' h1 h2).gr (Gr.alloc hp) (by rw [upd_ne (ne_of_none e hp)])
    · have : i = as.length := by
        have := (List.getElem?_eq_some_iff.mp h1).1
        simp at this
        omega
      subst this
      rw [List.getElem?_append_right (Nat.le_refl _)] at h1
      rw [m.len, List.getElem?_append_right (Nat.le_refl _)] at h2
      simp at h1 h2
      subst h1 h2
      exact hc
theorem Gr.write (m : MR K as H M) {a : Addr} {o : HO} (h : a ∈ as) : Gr as H as (upd H a o) := by
  obtain ⟨u, e, n1, n2⟩ := m.there h
  refine ⟨⟨[], by simp⟩, fun b x q => ?_, fun b x q n => ?_, fun b q n => absurd q n, fun b xs q => ?_, fun b p x q => ?_⟩
  · by_cases hb : b = a
    · subst hb; exact ⟨o, upd_same⟩
    · exact ⟨x, by rw [upd_ne hb]; exact q⟩
  · rw [upd_ne fun z => n (by rw [z]; exact h)]; exact q
  · rw [upd_ne fun z => n1 xs (by rw [z, e] at q; exact Option.some.inj q)]; exact q
  · rw [upd_ne fun z => n2 p x (by rw [z, e] at q; exact Option.some.inj q)]; exact q
theorem MR.write (m : MR K as H M) {i : Nat} {a : Addr} {o : HO} {c : Cell} (h : as[i]? = some a) (hc : CRel K as (upd H a o) a c) : MR K as (upd H a o) (M.set i c) := by
  have g : Gr as H as (upd H a o) := Gr.write m (List.mem_of_getElem? h)
  refine ⟨by simp [m.len], m.nd, fun j b c' h1 h2 => ?_⟩
  by_cases hj : j = i
  · subst hj
    rw [h] at h1
    cases h1
    have : j < M.length := by rw [← m.len]; exact (List.getElem?_eq_some_iff.mp h).1
    rw [List.getElem?_set_self this] at h2
    cases h2
    exact hc
  · rw [List.getElem?_set_ne (fun z => hj z.symm)] at h2
    have hb : b ≠ a := fun z => by
      subst z
      exact hj ((List.getElem?_inj (List.getElem?_eq_some_iff.mp h1).1 m.nd).mp (by rw [h1, h]))
    exact (m.cell j b c' h1 h2).gr g (upd_ne hb)
/-! what stands behind the first n cells is forgotten -/
mutual
def D.lo (n : Nat) : D → Bool
  | .tup ds => D.los n ds
  | .rol ds => D.los n ds
  | .rf i => decide (i < n)
  | _ => true
def D.los (n : Nat) : List D → Bool
  | [] => true
  | d :: ds => D.lo n d && D.los n ds
end
abbrev D.imm : D → Bool := D.lo 0
mutual
theorem VR.low {n : Nat} : ∀ {v : V} {d : D}, VR K as H v d → d.lo n = true → VR K (as.take n) H v d
  | _, _, .non, _ => .non
  | _, _, .bl b, _ => .bl b
  | _, _, .int i, _ => .int i
  | _, _, .str x, _ => .str x
  | _, _, .ty n, _ => .ty n
  | _, _, .fn a, _ => .fn a
  | _, _, .tup h hs, e => .tup h (VRs.low hs (by simpa [D.lo] using e))
  | _, _, .rol h hs, e => .rol h (VRs.low hs (by simpa [D.lo] using e))
  | _, _, .rf h, e => .rf (by
    simp only [D.lo, decide_eq_true_eq] at e
    rw [List.getElem?_take_of_lt e]
    exact h)
theorem VRs.low {n : Nat} : ∀ {vs : List V} {ds : List D}, VRs K as H vs ds → D.los n ds = true → VRs K (as.take n) H vs ds
  | _, _, .nil, _ => .nil
  | _, _, .cons h hs, e => by
    simp only [D.los, Bool.and_eq_true] at e
    exact .cons (VR.low h e.1) (VRs.low hs e.2)
end
def Cell.lo (n : Nat) : Cell → Bool
  | .lst ds => D.los n ds
  | .dK kds => D.los n (kds.map (·.2))
  | .ins _ fds => D.los n (fds.map (·.2))
theorem CRel.low {n : Nat} {a : Addr} : ∀ {c : Cell}, CRel K as H a c → c.lo n = true → CRel K (as.take n) H a c
  | .lst _, ⟨xs, h, r⟩, e => ⟨xs, h, r.low e⟩
  | .dK _, ⟨kvs, h, k, r⟩, e => ⟨kvs, h, k, r.low e⟩
  | .ins _ _, ⟨dx, fs, h, k, r⟩, e => ⟨dx, fs, h, k, r.low e⟩
theorem MR.low (m : MR K as H M) {n : Nat} (e : (M.take n).all (Cell.lo n) = true) : MR K (as.take n) H (M.take n) := by
  refine ⟨by simp [m.len], m.nd.sublist (List.take_sublist n as), fun i a c h1 h2 => ?_⟩
  have hi : i < n := by
    have := (List.getElem?_eq_some_iff.mp h1).1
    simp at this
    omega
  have hc := List.all_eq_true.mp e c (List.mem_of_getElem? h2)
  rw [List.getElem?_take_of_lt hi] at h1 h2
  exact (m.cell i a c h1 h2).low hc
theorem Gr.low (g : Gr as H as' H') : Gr as H (as'.take as.length) H' := by
  obtain ⟨t, e⟩ := g.app
  have : as'.take as.length = as := by rw [e]; simp
  rw [this]
  exact ⟨⟨[], by simp⟩, g.live, g.keep, fun _ h n => absurd h n, g.tup, g.frz⟩
theorem Gr.same (g : Gr [] H as' H') : Same H H' := fun a o h => g.keep a o h (by simp)
theorem Gr.of_same {as : List Addr} (m : MR K as H M) (s : Same H H') : Gr as H as H' :=
  ⟨⟨[], by simp⟩, fun _ o h => ⟨o, s _ _ h⟩, fun a o h _ => s a o h, fun _ h n => absurd h n, fun a xs h => s _ _ h, fun a o u h => s _ _ h⟩
theorem MR.same (m : MR K as H M) (s : Same H H') : MR K as H' M := m.keep (Gr.of_same m s) fun a h => by
  obtain ⟨o, e, _⟩ := m.there h
  rw [s _ _ e, e]
/-- what has no place in the memory stands for itself in any -/
theorem VR.up (h : VR K [] H v d) : VR K as H v d := by
  have g : Gr [] H as H → VR K as H v d := fun g => h.gr g
  exact VR.rec (motive_1 := fun v d _ => VR K as H v d) (motive_2 := fun vs ds _ => VRs K as H vs ds) .non .bl .int .str .ty .fn (fun h _ hs => .tup h hs) (fun h _ hs => .rol h hs) (fun h => by simp at h) .nil (fun _ _ h hs => .cons h hs) h
theorem Gr.free (g : Gr as H as' H') {L : Addr} (h : H' L = none) : H L = none := by
  cases e : H L with
  | none => rfl
  | some o =>
    obtain ⟨o', q⟩ := g.live L o e
    rw [h] at q; cases q
/-- a list that the memory doesn't track is written -/
theorem Gv.side {L : Addr} {xs : List V} {o : HO} (h : H L = some (.lst xs)) : Gv as H as (upd H L o) :=
  ⟨⟨[], by simp⟩, fun a ys q => by rw [upd_ne fun z => by rw [z, h] at q; cases q]; exact q, fun a p u q => by rw [upd_ne fun z => by rw [z, h] at q; cases q]; exact q⟩
theorem Gr.over (g : Gr as H as' H') {L : Addr} {o : HO} (hn : H L = none) : Gr as H as' (upd H' L o) where
  app := g.app
  live := fun a u q => by
    obtain ⟨u', q'⟩ := g.live a u q
    exact ⟨u', by rw [upd_ne (ne_of_none q hn)]; exact q'⟩
  keep := fun a u q n => by rw [upd_ne (ne_of_none q hn)]; exact g.keep a u q n
  fresh := g.fresh
  tup := fun a xs q => by rw [upd_ne (ne_of_none q hn)]; exact g.tup a xs q
  frz := fun a u xs q => by rw [upd_ne (ne_of_none q hn)]; exact g.frz a u xs q
theorem MR.side (m : MR K as H M) {L : Addr} {xs : List V} {o : HO} (h : H L = some (.lst xs)) (n : L ∉ as) : MR K as (upd H L o) M :=
  m.keepv (Gv.side h) fun a ha => upd_ne fun z => n (by rw [← z]; exact ha)
/-- such a list comes under the memory -/
theorem Gr.take (g : Gr as H as' H') {L : Addr} (hn : H L = none) (n : L ∉ as') : Gr as H (as' ++ [L]) H' where
  app := by
    obtain ⟨t, rfl⟩ := g.app
    exact ⟨t ++ [L], by simp⟩
  live := g.live
  keep := g.keep
  fresh := fun a q n => by
    rcases List.mem_append.mp q with q | q
    · exact g.fresh a q n
    · rw [List.mem_singleton.mp q]; exact hn
  tup := g.tup
  frz := g.frz
theorem MR.take (m : MR K as H M) {L : Addr} {xs : List V} {ds : List D} (h : H L = some (.lst xs)) (n : L ∉ as) (r : VRs K as H xs ds) : MR K (as ++ [L]) H (M ++ [.lst ds]) := by
  have gv : Gv as H (as ++ [L]) H := ⟨⟨[L], rfl⟩, fun _ _ q => q, fun _ _ _ q => q⟩
  refine ⟨by simp [m.len], ?_, fun i a c' h1 h2 => ?_⟩
  · rw [List.nodup_append]
    exact ⟨m.nd, by simp, fun a ha b hb z => by
      rw [List.mem_singleton.mp hb] at z
      subst z
      exact n ha⟩
  · by_cases hi : i < as.length
    · rw [List.getElem?_append_left hi] at h1
      rw [List.getElem?_append_left (by rw [← m.len]; exact hi)] at h2
      exact (m.cell i a c' h1 h2).gv gv rfl
    · have : i = as.length := by
        have := (List.getElem?_eq_some_iff.mp h1).1
        simp at this
        omega
      subst this
      rw [List.getElem?_append_right (Nat.le_refl _)] at h1
      rw [m.len, List.getElem?_append_right (Nat.le_refl _)] at h2
      simp at h1 h2
      subst h1 h2
      exact ⟨xs, h, r.gv gv⟩
end

/-! ### the mirror: slots, readings -/
def SR (K : Kx) (as : List Addr) (H : Hp) : L2.St → Rho → Prop := Paired fun o p => ∀ d, p = some d → ∃ v, o = some v ∧ VR K as H v d
abbrev FE := Rho → Mem → Option (D × Mem)
abbrev FT := Rho → Mem → Option (Bool × Mem)
abbrev FA := Rho → Mem → Option (List D × Mem)
section
variable {K : Kx} {as as' : List Addr} {H H' : Hp} {σ : L2.St} {ρ : Rho} {M M' : Mem}
theorem SR.gr (g : Gr as H as' H') : ∀ {σ : L2.St} {ρ : Rho}, SR K as H σ ρ → SR K as' H' σ ρ
  | _, _, .nil => .nil
  | _, _, .cons h t => .cons (fun d e => let ⟨v, h1, h2⟩ := h d e; ⟨v, h1, h2.gr g⟩) (SR.gr g t)
theorem SR.get : ∀ {σ : L2.St} {ρ : Rho} {i : Nat} {d : D}, SR K as H σ ρ → ρ[i]? = some (some d) → ∃ v, σ[i]? = some (some v) ∧ VR K as H v d
  | _, _, _, _, .nil, e => by simp at e
  | _, _, 0, d, .cons h _, e => by
    obtain ⟨v, h1, h2⟩ := h d (by simpa using e)
    subst h1
    exact ⟨v, rfl, h2⟩
  | _, _, i + 1, _, .cons _ t, e => by
    obtain ⟨v, h1, h2⟩ := SR.get (i := i) t (by simpa using e)
    exact ⟨v, by simpa using h1, h2⟩
theorem SR.set {v : V} {d : D} (r : VR K as H v d) : ∀ {σ : L2.St} {ρ : Rho} (i : Nat), SR K as H σ ρ → SR K as H (σ.set i (some v)) (ρ.set i (some d))
  | _, _, _, .nil => .nil
  | _, _, 0, .cons _ t => .cons (fun d' e => ⟨v, rfl, by cases e; exact r⟩) t
  | _, _, i + 1, .cons h t => .cons h (SR.set r i t)
theorem SR.unset : ∀ {σ : L2.St} {ρ : Rho} (i : Nat), SR K as H σ ρ → SR K as H (σ.set i none) (ρ.set i none)
  | _, _, _, .nil => .nil
  | _, _, 0, .cons _ t => .cons (fun d' e => by cases e) t
  | _, _, i + 1, .cons h t => .cons h (SR.unset i t)
theorem SR.some : ∀ {vs : List V} {ds : List D}, VRs K as H vs ds → SR K as H (vs.map some) (ds.map some)
  | _, _, .nil => .nil
  | _, _, .cons h hs => .cons (fun d e => ⟨_, rfl, by cases e; exact h⟩) (SR.some hs)
theorem SR.app : ∀ {σ τ : L2.St} {ρ θ : Rho}, SR K as H σ ρ → SR K as H τ θ → SR K as H (σ ++ τ) (ρ ++ θ)
  | _, _, _, _, .nil, s => s
  | _, _, _, _, .cons h t, s => .cons h (SR.app t s)
theorem SR.nones : ∀ n : Nat, SR K as H (List.replicate n none) (List.replicate n none)
  | 0 => .nil
  | n + 1 => .cons (fun d e => by cases e) (SR.nones n)
/-- the slots at a def's entry -/
def startD (n : Nat) (ds : List D) : Rho := ds.map some ++ List.replicate (n - ds.length) none
theorem SR.start {N : List Str} {vs : List V} {ds : List D} (h : VRs K as H vs ds) : SR K as H (L2.start N vs) (startD N.length ds) := by
  unfold L2.start startD
  rw [← h.len]
  exact (SR.some h).app (SR.nones _)
def rE (K : Kx) (f : FE) : TE := fun σ H Q => ∃ as ρ M d M', SR K as H σ ρ ∧ MR K as H M ∧ f ρ M = some (d, M') ∧ ∀ v as' H', Gr as H as' H' → MR K as' H' M' → VR K as' H' v d → Q v H'
def rT (K : Kx) (f : FT) : TT := fun σ H Q => ∃ as ρ M b M', SR K as H σ ρ ∧ MR K as H M ∧ f ρ M = some (b, M') ∧ ∀ as' H', Gr as H as' H' → MR K as' H' M' → Q b H'
def rA (K : Kx) (f : FA) : TA := fun σ H Q => ∃ as ρ M ds M', SR K as H σ ρ ∧ MR K as H M ∧ f ρ M = some (ds, M') ∧ ∀ vs as' H', Gr as H as' H' → MR K as' H' M' → VRs K as' H' vs ds → Q vs H'
/-- an operation on two values -/
abbrev G2 := D → D → Mem → Option (D × Mem)
def rO (K : Kx) (g : G2) : R2 := fun x y H Q => ∃ as M dx dy d M', MR K as H M ∧ VR K as H x dx ∧ VR K as H y dy ∧ g dx dy M = some (d, M') ∧ ∀ v as' H', Gr as H as' H' → MR K as' H' M' → VR K as' H' v d → Q v H'
abbrev G1 := D → Mem → Option (D × Mem)
def rU1 (K : Kx) (g : G1) : V → Hp → VK → Prop := fun x H Q => ∃ as M dx d M', MR K as H M ∧ VR K as H x dx ∧ g dx M = some (d, M') ∧ ∀ v as' H', Gr as H as' H' → MR K as' H' M' → VR K as' H' v d → Q v H'
abbrev GL := List D → Mem → Option (D × Mem)
def rL (K : Kx) (g : GL) : List V → Hp → VK → Prop := fun xs H Q => ∃ as M ds d M', MR K as H M ∧ VRs K as H xs ds ∧ g ds M = some (d, M') ∧ ∀ v as' H', Gr as H as' H' → MR K as' H' M' → VR K as' H' v d → Q v H'
def rM (K : Kx) (g : D → GL) : V → List V → Hp → VK → Prop := fun x xs H Q => ∃ as M dx ds d M', MR K as H M ∧ VR K as H x dx ∧ VRs K as H xs ds ∧ g dx ds M = some (d, M') ∧ ∀ v as' H', Gr as H as' H' → MR K as' H' M' → VR K as' H' v d → Q v H'
end
theorem pe_mono {X : Cx} {e : Expr} {t t' : TE} (h : PE X e t) (m : ∀ σ H Q, t' σ H Q → t σ H Q) : PE X e t' := ⟨fun pins s σ H Q I q => h.run pins s σ H Q I (m σ H Q q)⟩
theorem pt_mono {X : Cx} {e : Expr} {t t' : TT} (h : PT X e t) (m : ∀ σ H Q, t' σ H Q → t σ H Q) : PT X e t' := ⟨fun pins s σ H Q I q => h.run pins s σ H Q I (m σ H Q q)⟩
theorem pw_mono {X : Cx} {e : Expr} {t t' : TT} (h : PW X e t) (m : ∀ σ H Q, t' σ H Q → t σ H Q) : PW X e t' := ⟨fun wh pins s σ H Q I q => h.run wh pins s σ H Q I (m σ H Q q)⟩
theorem pts_mono {X : Cx} {e : List Expr} {t t' : TT} (h : PTs X e t) (m : ∀ σ H Q, t' σ H Q → t σ H Q) : PTs X e t' := ⟨fun pins s σ H Q I q => h.run pins s σ H Q I (m σ H Q q)⟩
theorem pa_mono {X : Cx} {e : List Expr} {t t' : TA} (h : PA X e t) (m : ∀ σ H Q, t' σ H Q → t σ H Q) : PA X e t' := ⟨fun pos pins s σ H Q I q => h.run pos pins s σ H Q I (m σ H Q q)⟩
theorem ps_mono {X : Cx} {e : Stmt} {t t' : TS} (h : PS X e t) (m : ∀ D σ H, t' D σ H → t D σ H) : PS X e t' := ⟨fun pins s σ H D I q => h.run pins s σ H D I (m D σ H q)⟩
theorem pss_mono {X : Cx} {e : List Stmt} {t t' : TS} (h : PSs X e t) (m : ∀ D σ H, t' D σ H → t D σ H) : PSs X e t' := ⟨fun pins s σ H D I q => h.run pins s σ H D I (m D σ H q)⟩
theorem pi_mono {X : Cx} {tg e : Expr} {t t' : TI} (h : PI X tg e t) (m : ∀ σ H R, t' σ H R → t σ H R) : PI X tg e t' := ⟨fun pins s σ H R I q => h.run pins s σ H R I (m σ H R q)⟩
theorem pg_mono {X : Cx} {e : Expr} {t t' : TG} (h : PG X e t) (m : ∀ v σ H Q, t' v σ H Q → t v σ H Q) : PG X e t' := ⟨fun pins s σ H v u Q I r q => h.run pins s σ H v u Q I r (m v σ H Q q)⟩
def SE (K : Kx) (X : Cx) (e : Expr) (f : FE) : Prop := X.K = K.K → X.calm = true → PE X e (rE K f)
def ST (K : Kx) (X : Cx) (e : Expr) (f : FT) : Prop := X.K = K.K → X.calm = true → PT X e (rT K f)
def SW (K : Kx) (X : Cx) (e : Expr) (f : FT) : Prop := X.K = K.K → X.calm = true → PW X e (rT K f)
def SA (K : Kx) (X : Cx) (es : List Expr) (f : FA) : Prop := X.K = K.K → X.calm = true → PA X es (rA K f)
/-! ### combinators -/
def fV (i : Nat) : FE := fun ρ M => ((ρ[i]?).bind id).map fun d => (d, M)
def fC (d : D) : FE := fun _ M => some (d, M)
def fO (g : G2) (fa fb : FE) : FE := fun ρ M => (fa ρ M).bind fun p => (fb ρ p.2).bind fun q => g p.1 q.1 q.2
def fU (g : G1) (fa : FE) : FE := fun ρ M => (fa ρ M).bind fun p => g p.1 p.2
def fNil : FA := fun _ M => some ([], M)
def fCons (fa : FE) (fr : FA) : FA := fun ρ M => (fa ρ M).bind fun p => (fr ρ p.2).bind fun q => some (p.1 :: q.1, q.2)
def fL (g : GL) (fa : FA) : FE := fun ρ M => (fa ρ M).bind fun p => g p.1 p.2
def fM (g : D → GL) (fo : FE) (fa : FA) : FE := fun ρ M => (fo ρ M).bind fun o => (fa ρ o.2).bind fun p => g o.1 p.1 p.2
def fIf (c : FT) (fa fb : FE) : FE := fun ρ M => (c ρ M).bind fun p => if p.1 = true then fa ρ p.2 else fb ρ p.2
def tV (f : FE) : FT := fun ρ M => (f ρ M).bind fun p => match p.1 with
  | .bl b => some (b, p.2)
  | _ => none
def gTru : D → Mem → Option Bool
  | .non, _ => some false
  | .bl b, _ => some b
  | .int i, _ => some (i != 0)
  | .str x, _ => if x.length ≤ 100000 then some (x.length != 0) else none
  | .tup ds, _ => some !ds.isEmpty
  | .rol ds, _ => some !ds.isEmpty
  | .rf i, M => match M[i]? with
    | some (.lst ds) => some !ds.isEmpty
    | _ => none
  | _, _ => none
def tTr (f : FE) : FT := fun ρ M => (f ρ M).bind fun p => (gTru p.1 p.2).map fun b => (b, p.2)
def tAn (a b : FT) : FT := fun ρ M => (a ρ M).bind fun p => if p.1 = true then b ρ p.2 else some (false, p.2)
def tOr2 (a b : FT) : FT := fun ρ M => (a ρ M).bind fun p => if p.1 = true then some (true, p.2) else b ρ p.2
def tNo (a : FT) : FT := fun ρ M => (a ρ M).bind fun p => some (!p.1, p.2)
def fNotB (a : FE) : FE := fun ρ M => (a ρ M).bind fun p => match p.1 with
  | .bl b => some (.bl (!b), p.2)
  | _ => none
def fAnB (a b : FE) : FE := fun ρ M => (a ρ M).bind fun p => match p.1 with
  | .bl c => if c = true then b ρ p.2 else some (.bl false, p.2)
  | _ => none
def fOrB (a b : FE) : FE := fun ρ M => (a ρ M).bind fun p => match p.1 with
  | .bl c => if c = true then some (.bl true, p.2) else b ρ p.2
  | _ => none
def fTup (fa : FA) : FE := fun ρ M => (fa ρ M).bind fun p => if p.1.length ≤ 100000 then some (.tup p.1, p.2) else none
def fLst (fa : FA) : FE := fun ρ M => (fa ρ M).bind fun p => if p.1.length ≤ 100000 then some (.rf p.2.length, p.2 ++ [.lst p.1]) else none
def fCh (g g' : G2) (fa fb fc : FE) : FE := fun ρ M => (fa ρ M).bind fun p => (fb ρ p.2).bind fun q => (g p.1 q.1 q.2).bind fun r => match r.1 with
  | .bl k => if k = true then (fc ρ r.2).bind fun s => g' q.1 s.1 s.2 else some (.bl false, r.2)
  | _ => none
theorem lim_ok {n : Nat} (h : n ≤ 100000) : n ≤ sizeLine := Nat.le_trans h (by decide)
section
variable {K : Kx} {X : Cx} {a b c e : Expr} {es : List Expr} {fa fb fc : FE} {fr : FA} {ta tb : FT} {pos : Pos}
theorem SE.imp {t : TE} {f : FE} (h : X.K = K.K → X.calm = true → PE X e t) (m : ∀ σ H Q, rE K f σ H Q → t σ H Q) : SE K X e f := fun hK hc => pe_mono (h hK hc) m
theorem se_v {i : Nat} {x : Str} (hN : X.N[i]? = some x) (hv : Vis X.env.scope x) (hd : (x == ("__debug__" : Str)) = false := by decide) (hcd : (x == ("__classdict__" : Str)) = false := by decide) : SE K X (.Name x pos) (fV i) :=
  SE.imp (fun _ _ => pe_var hN hv hd hcd) fun σ H Q ⟨as, ρ, M, d, M', sr, mr, ev, k⟩ => by
    unfold fV at ev
    cases e : ρ[i]? with
    | none => rw [e] at ev; simp at ev
    | some o =>
      cases o with
      | none => rw [e] at ev; simp at ev
      | some d' =>
        rw [e] at ev
        simp at ev
        obtain ⟨rfl, rfl⟩ := ev
        obtain ⟨v, h1, h2⟩ := sr.get e
        exact ⟨v, h1, k v as H Gr.refl mr h2⟩
theorem se_pv {i : Nat} (h : PE X e (tVar i)) : SE K X e (fV i) :=
  SE.imp (fun _ _ => h) fun σ H Q ⟨as, ρ, M, d, M', sr, mr, ev, k⟩ => by
    unfold fV at ev
    cases e : ρ[i]? with
    | none => rw [e] at ev; simp at ev
    | some o =>
      cases o with
      | none => rw [e] at ev; simp at ev
      | some d' =>
        rw [e] at ev
        simp at ev
        obtain ⟨rfl, rfl⟩ := ev
        obtain ⟨v, h1, h2⟩ := sr.get e
        exact ⟨v, h1, k v as H Gr.refl mr h2⟩
theorem se_c {v : V} {d : D} (h : PE X e (tC v)) (r : ∀ as H, VR K as H v d) : SE K X e (fC d) :=
  SE.imp (fun _ _ => h) fun σ H Q ⟨as, ρ, M, d', M', sr, mr, ev, k⟩ => by
    cases ev
    exact k v as H Gr.refl mr (r as H)
theorem se_int {i : Int} {j} : SE K X (.Constant (.int i) j pos) (fC (.int i)) := se_c pe_int fun _ _ => .int i
theorem se_bl {b : Bool} {j} : SE K X (.Constant (.bool b) j pos) (fC (.bl b)) := se_c pe_bl fun _ _ => .bl b
theorem se_non {j} : SE K X (.Constant .none j pos) (fC .non) := se_c pe_non fun _ _ => .non
theorem se_str {x : Str} {j} : SE K X (.Constant (.str x) j pos) (fC (.str x)) := se_c pe_str fun _ _ => .str x
theorem se_glob {x : Str} {v : V} {u : Value} {d : D} (hg : Gl X x) (hm : X.mg x = some u) (r : RelV v u) (rd : ∀ as H, VR K as H v d) (hd : (x == ("__debug__" : Str)) = false := by decide) : SE K X (.Name x pos) (fC d) := se_c (pe_glob hg hm r hd) rd
theorem se_bltn {x : Str} {T : String} (hg : Gl X x) (hm : X.mg x = none) (hv : bootBuiltins x = some (.type T)) (hn : x ≠ "__name__" := by decide) (hd : (x == ("__debug__" : Str)) = false := by decide) : SE K X (.Name x pos) (fC (.ty T)) := se_c (pe_bltn (v := .ty T) hg hm hv rfl hn hd) fun _ _ => .ty T
/-- the two parts of an operation, one behind the other -/
theorem rE.two {g : G2} {σ : L2.St} {H : Hp} {Q : VK} (h : rE K (fO g fa fb) σ H Q) : tOp (rO K g) (rE K fa) (rE K fb) σ H Q := by
  obtain ⟨as, ρ, M, d, M', sr, mr, ev, k⟩ := h
  unfold fO at ev
  obtain ⟨⟨x, M1⟩, e1, ev⟩ := Option.bind_eq_some_iff.mp ev
  obtain ⟨⟨y, M2⟩, e2, ev⟩ := Option.bind_eq_some_iff.mp ev
  refine ⟨as, ρ, M, x, M1, sr, mr, e1, fun v as1 H1 g1 m1 r1 => ⟨as1, ρ, M1, y, M2, sr.gr g1, m1, e2, fun u as2 H2 g2 m2 r2 => ?_⟩⟩
  exact ⟨as2, M2, x, y, d, M', m2, r1.gr g2, r2, ev, fun w as3 H3 g3 m3 r3 => k w as3 H3 ((g1.trans g2).trans g3) m3 r3⟩
theorem se_op {op : Operator} {g : G2} (ho : X.K = K.K → OpR X (binaryOp op) (rO K g)) (ha : SE K X a fa) (hb : SE K X b fb) : SE K X (.BinOp a op b pos) (fO g fa fb) :=
  SE.imp (fun hK hc => pe_op (ho hK) (ha hK hc) (hb hK hc)) fun _ _ _ => rE.two
theorem se_cmp {op : CmpOp} {g : G2} (ho : X.K = K.K → OpR X (compareOp op) (rO K g)) (ha : SE K X a fa) (hb : SE K X b fb) (hm : behindInMarks op b = false) : SE K X (.Compare a [op] [b] pos) (fO g fa fb) :=
  SE.imp (fun hK hc => pe_cmpR (ho hK) (ha hK hc) (hb hK hc) hm) fun _ _ _ => rE.two
theorem se_ix {g : G2} (hr : X.K = K.K → IxR X (rO K g)) (ha : SE K X a fa) (hb : SE K X b fb) (hs : PlainIx b) : SE K X (.Subscript a b pos) (fO g fa fb) :=
  SE.imp (fun hK hc => pe_ix (hr hK) (ha hK hc) (hb hK hc) hs) fun _ _ _ => rE.two
theorem se_un {op : UnaryOp} {g : G1} (ho : X.K = K.K → UnR X (unaryOp op) (rU1 K g)) (ha : SE K X a fa) : SE K X (.UnaryOp op a pos) (fU g fa) :=
  SE.imp (fun hK hc => pe_un (ho hK) (ha hK hc)) fun σ H Q ⟨as, ρ, M, d, M', sr, mr, ev, k⟩ => by
    unfold fU at ev
    obtain ⟨⟨x, M1⟩, e1, ev⟩ := Option.bind_eq_some_iff.mp ev
    exact ⟨as, ρ, M, x, M1, sr, mr, e1, fun v as1 H1 g1 m1 r1 => ⟨as1, M1, x, d, M', m1, r1, ev, fun w as3 H3 g3 m3 r3 => k w as3 H3 (g1.trans g3) m3 r3⟩⟩
theorem se_chain {op op' : CmpOp} {g g' : G2} (ho : X.K = K.K → OpR X (compareOp op) (rO K g)) (ho' : X.K = K.K → OpR X (compareOp op') (rO K g')) (ha : SE K X a fa) (hb : SE K X b fb) (hc : SE K X c fc)
    (hm : lastMarks [op, op'] [b, c] = false := by with_unfolding_all rfl) : SE K X (.Compare a [op, op'] [b, c] pos) (fCh g g' fa fb fc) :=
  SE.imp (fun hK hq => pe_chain (ho hK) (ho' hK) (ha hK hq) (hb hK hq) (hc hK hq) hm) fun σ H Q ⟨as, ρ, M, d, M', sr, mr, ev, k⟩ => by
    unfold fCh at ev
    obtain ⟨⟨x, M1⟩, e1, ev⟩ := Option.bind_eq_some_iff.mp ev
    obtain ⟨⟨y, M2⟩, e2, ev⟩ := Option.bind_eq_some_iff.mp ev
    obtain ⟨⟨z, M3⟩, e3, ev⟩ := Option.bind_eq_some_iff.mp ev
    refine ⟨as, ρ, M, x, M1, sr, mr, e1, fun v as1 H1 g1 m1 r1 => ⟨as1, ρ, M1, y, M2, sr.gr g1, m1, e2, fun u as2 H2 g2 m2 r2 => ⟨as2, M2, x, y, z, M3, m2, r1.gr g2, r2, e3, fun w as3 H3 g3 m3 r3 => ?_⟩⟩⟩
    cases z with
    | bl kk =>
      cases r3
      refine ⟨kk, rfl, ?_⟩
      dsimp only at ev
      cases kk with
      | true =>
        rw [if_pos rfl] at ev ⊢
        obtain ⟨⟨s, M4⟩, e4, ev⟩ := Option.bind_eq_some_iff.mp ev
        refine ⟨as3, ρ, M3, s, M4, ((sr.gr g1).gr g2).gr g3, m3, e4, fun q as4 H4 g4 m4 r4 => ⟨as4, M4, y, s, d, M', m4, (r2.gr g3).gr g4, r4, ev, fun p as5 H5 g5 m5 r5 => k p as5 H5 ((((g1.trans g2).trans g3).trans g4).trans g5) m5 r5⟩⟩
      | false =>
        rw [if_neg (fun z => nomatch z)] at ev ⊢
        cases ev
        exact k _ as3 H3 ((g1.trans g2).trans g3) m3 (.bl false)
    | _ => cases ev
theorem sa_nil : SA K X [] fNil := fun _ _ => pa_mono pa_nil fun σ H Q ⟨as, ρ, M, ds, M', sr, mr, ev, k⟩ => by
  cases ev
  exact k [] as H Gr.refl mr .nil
theorem sa_cons (ha : SE K X e fa) (hr : SA K X es fr) (hs : starEach (e :: es) X.env = (false, eval e X.env) :: starEach es X.env := by rfl) : SA K X (e :: es) (fCons fa fr) :=
  fun hK hc => pa_mono (pa_cons (ha hK hc) (hr hK hc) hs) fun σ H Q ⟨as, ρ, M, ds, M', sr, mr, ev, k⟩ => by
    unfold fCons at ev
    obtain ⟨⟨x, M1⟩, e1, ev⟩ := Option.bind_eq_some_iff.mp ev
    obtain ⟨⟨y, M2⟩, e2, ev⟩ := Option.bind_eq_some_iff.mp ev
    cases ev
    exact ⟨as, ρ, M, x, M1, sr, mr, e1, fun v as1 H1 g1 m1 r1 => ⟨as1, ρ, M1, y, _, sr.gr g1, m1, e2, fun us as2 H2 g2 m2 r2 => k _ as2 H2 (g1.trans g2) m2 (.cons (r1.gr g2) r2)⟩⟩
theorem se_tup {x1} (h : SA K X es fr) : SE K X (.Tuple es x1 pos) (fTup fr) :=
  SE.imp (fun hK hc => pe_tup (h hK hc)) fun σ H Q ⟨as, ρ, M, d, M', sr, mr, ev, k⟩ => by
    unfold fTup at ev
    obtain ⟨⟨ds, M1⟩, e1, ev⟩ := Option.bind_eq_some_iff.mp ev
    dsimp only at ev
    split at ev
    · rename_i hl
      cases ev
      refine ⟨as, ρ, M, ds, _, sr, mr, e1, fun vs as1 H1 g1 m1 r1 => ⟨lim_ok (by rw [r1.len]; exact hl), fun p hp => ?_⟩⟩
      have gn : Gr as1 H1 as1 (upd H1 p (.tup vs)) := Gr.new hp
      exact k _ as1 _ (g1.trans gn) (m1.new hp) (.tup (.inl upd_same) (r1.gr gn))
    · cases ev
theorem se_lst (h : SA K X es fr) : SE K X (.List es pos) (fLst fr) :=
  SE.imp (fun hK hc => pe_lst (h hK hc)) fun σ H Q ⟨as, ρ, M, d, M', sr, mr, ev, k⟩ => by
    unfold fLst at ev
    obtain ⟨⟨ds, M1⟩, e1, ev⟩ := Option.bind_eq_some_iff.mp ev
    dsimp only at ev
    split at ev
    · rename_i hl
      cases ev
      refine ⟨as, ρ, M, ds, _, sr, mr, e1, fun vs as1 H1 g1 m1 r1 => ⟨lim_ok (by rw [r1.len]; exact hl), fun p hp => ?_⟩⟩
      have gn : Gr as1 H1 (as1 ++ [p]) (upd H1 p (.lst vs)) := Gr.alloc hp
      exact k _ _ _ (g1.trans gn) (m1.alloc hp ⟨vs, upd_same, r1.gr gn⟩) (.rf (by rw [← m1.len]; simp))
    · cases ev
theorem se_if (hc : ST K X c ta) (ha : SE K X a fa) (hb : SE K X b fb) : SE K X (.IfExp c a b pos) (fIf ta fa fb) :=
  SE.imp (fun hK hq => pe_ifExp (hc hK hq) (ha hK hq) (hb hK hq)) fun σ H Q ⟨as, ρ, M, d, M', sr, mr, ev, k⟩ => by
    unfold fIf at ev
    obtain ⟨⟨x, M1⟩, e1, ev⟩ := Option.bind_eq_some_iff.mp ev
    refine ⟨as, ρ, M, x, M1, sr, mr, e1, fun as1 H1 g1 m1 => ?_⟩
    cases x with
    | true => exact ⟨as1, ρ, M1, d, M', sr.gr g1, m1, by simpa using ev, fun v as2 H2 g2 m2 r2 => k v as2 H2 (g1.trans g2) m2 r2⟩
    | false => exact ⟨as1, ρ, M1, d, M', sr.gr g1, m1, by simpa using ev, fun v as2 H2 g2 m2 r2 => k v as2 H2 (g1.trans g2) m2 r2⟩
/-! tests -/
theorem st_val (h : SE K X e fa) (he : ∀ whole, isTrue e X.env whole = (do let v ← whole; standAt e.pos; holding [v] (truthy v)) := by intro _; rfl) : ST K X e (tV fa) :=
  fun hK hc => pt_mono (pt_val (h hK hc) he) fun σ H Q ⟨as, ρ, M, d, M', sr, mr, ev, k⟩ => by
    unfold tV at ev
    obtain ⟨⟨x, M1⟩, e1, ev⟩ := Option.bind_eq_some_iff.mp ev
    refine ⟨as, ρ, M, x, M1, sr, mr, e1, fun v as1 H1 g1 m1 r1 => ?_⟩
    cases x with
    | bl b =>
      cases ev
      cases r1
      exact ⟨_, rfl, k as1 H1 g1 m1⟩
    | _ => cases ev
theorem st_cmp {op : CmpOp} {g : G2} (ho : X.K = K.K → OpR X (compareOp op) (rO K g)) (ha : SE K X a fa) (hb : SE K X b fb) (hm : behindInMarks op b = false) : ST K X (.Compare a [op] [b] pos) (tV (fO g fa fb)) :=
  fun hK hc => pt_mono (pt_cmpR (ho hK) (ha hK hc) (hb hK hc) hm) fun σ H Q ⟨as, ρ, M, d, M', sr, mr, ev, k⟩ => by
    unfold tV at ev
    obtain ⟨⟨x, M1⟩, e1, ev⟩ := Option.bind_eq_some_iff.mp ev
    refine rE.two ⟨as, ρ, M, x, M1, sr, mr, e1, fun v as1 H1 g1 m1 r1 => ?_⟩
    cases x with
    | bl b =>
      cases ev
      cases r1
      exact ⟨_, rfl, k as1 H1 g1 m1⟩
    | _ => cases ev
theorem tru_of {K : Kx} {as : List Addr} {H : Hp} {M : Mem} (m : MR K as H M) {v : V} {x : D} {b : Bool} (r : VR K as H v x) (e : gTru x M = some b) : TruV K.K v H b := by
  cases r with
  | non => cases e; rfl
  | bl b => cases e; rfl
  | int i => cases e; rfl
  | str z =>
    simp only [gTru] at e
    split at e
    · rename_i hl
      cases e
      exact ⟨lim_ok hl, by rw [Bool.eq_iff_iff]; simp⟩
    · cases e
  | ty n => cases e
  | fn a => cases e
  | tup h hs => cases e; exact .inr (.inl ⟨_, h.sq, by rw [hs.isEmpty]⟩)
  | rol h hs => cases e; exact .inl ⟨_, h.sq, by rw [hs.isEmpty]⟩
  | @rf i ad h =>
    simp only [gTru] at e
    split at e
    · rename_i ds hc
      cases e
      obtain ⟨xs, q, r⟩ := m.cell i ad _ h hc
      exact .inl ⟨xs, SqL.of q, by rw [r.isEmpty]⟩
    · cases e
theorem st_tru (h : SE K X e fa) (he : ∀ whole, isTrue e X.env whole = (do let v ← whole; standAt e.pos; holding [v] (truthy v))) : ST K X e (tTr fa) :=
  fun hK hc => pt_mono (pt_truth (h hK hc) he) fun σ H Q ⟨as, ρ, M, d, M', sr, mr, ev, k⟩ => by
    obtain ⟨_, Γ⟩ := K
    cases hK
    unfold tTr at ev
    obtain ⟨⟨x, M1⟩, e1, ev⟩ := Option.bind_eq_some_iff.mp ev
    obtain ⟨b, e2, ev⟩ := Option.map_eq_some_iff.mp ev
    cases ev
    exact ⟨as, ρ, M, x, M1, sr, mr, e1, fun v as1 H1 g1 m1 r1 => ⟨_, tru_of m1 r1 e2, k as1 H1 g1 m1⟩⟩
theorem sw_pt {f : FT} (h : SW K X e f) : ST K X e f := fun hK hc => (h hK hc).pt
theorem rT.two {ta tb : FT} {σ : L2.St} {H : Hp} {Q : Bool → Hp → Prop} (h : rT K (tAn ta tb) σ H Q) : tAnd (rT K ta) (rT K tb) σ H Q := by
  obtain ⟨as, ρ, M, b, M', sr, mr, ev, k⟩ := h
  unfold tAn at ev
  obtain ⟨⟨x, M1⟩, e1, ev⟩ := Option.bind_eq_some_iff.mp ev
  refine ⟨as, ρ, M, x, M1, sr, mr, e1, fun as1 H1 g1 m1 => ?_⟩
  cases x with
  | true =>
    rw [if_pos rfl] at ev ⊢
    exact ⟨as1, ρ, M1, b, M', sr.gr g1, m1, ev, fun as2 H2 g2 m2 => k as2 H2 (g1.trans g2) m2⟩
  | false =>
    rw [if_neg (fun z => nomatch z)] at ev ⊢
    cases ev
    exact k as1 H1 g1 m1
theorem rT.twoO {ta tb : FT} {σ : L2.St} {H : Hp} {Q : Bool → Hp → Prop} (h : rT K (tOr2 ta tb) σ H Q) : tOr (rT K ta) (rT K tb) σ H Q := by
  obtain ⟨as, ρ, M, b, M', sr, mr, ev, k⟩ := h
  unfold tOr2 at ev
  obtain ⟨⟨x, M1⟩, e1, ev⟩ := Option.bind_eq_some_iff.mp ev
  refine ⟨as, ρ, M, x, M1, sr, mr, e1, fun as1 H1 g1 m1 => ?_⟩
  cases x with
  | true =>
    rw [if_pos rfl] at ev ⊢
    cases ev
    exact k as1 H1 g1 m1
  | false =>
    rw [if_neg (fun z => nomatch z)] at ev ⊢
    exact ⟨as1, ρ, M1, b, M', sr.gr g1, m1, ev, fun as2 H2 g2 m2 => k as2 H2 (g1.trans g2) m2⟩
variable {rest : List Expr}
theorem sw_and1 (ha : ST K X a ta) : SW K X (.BoolOp .And [a] pos) ta := fun hK hc => pw_and1 (ha hK hc)
theorem sw_or1 (ha : ST K X a ta) : SW K X (.BoolOp .Or [a] pos) ta := fun hK hc => pw_or1 (ha hK hc)
theorem sw_and (ha : ST K X a ta) (hb : SW K X (.BoolOp .And (b :: rest) pos) tb) : SW K X (.BoolOp .And (a :: b :: rest) pos) (tAn ta tb) := fun hK hc => pw_mono (pw_and (ha hK hc) (hb hK hc)) fun _ _ _ => rT.two
theorem sw_or (ha : ST K X a ta) (hb : SW K X (.BoolOp .Or (b :: rest) pos) tb) : SW K X (.BoolOp .Or (a :: b :: rest) pos) (tOr2 ta tb) := fun hK hc => pw_mono (pw_or (ha hK hc) (hb hK hc)) fun _ _ _ => rT.twoO
theorem st_not (ha : ST K X a ta) : ST K X (.UnaryOp .Not a pos) (tNo ta) := fun hK hc => pt_mono (pt_not (ha hK hc)) fun σ H Q ⟨as, ρ, M, b, M', sr, mr, ev, k⟩ => by
  unfold tNo at ev
  obtain ⟨⟨x, M1⟩, e1, ev⟩ := Option.bind_eq_some_iff.mp ev
  cases ev
  exact ⟨as, ρ, M, x, _, sr, mr, e1, fun as1 H1 g1 m1 => k as1 H1 g1 m1⟩
theorem se_not (ha : SE K X a fa) : SE K X (.UnaryOp .Not a pos) (fNotB fa) := SE.imp (fun hK hc => pe_not (ha hK hc)) fun σ H Q ⟨as, ρ, M, d, M', sr, mr, ev, k⟩ => by
  unfold fNotB at ev
  obtain ⟨⟨x, M1⟩, e1, ev⟩ := Option.bind_eq_some_iff.mp ev
  refine ⟨as, ρ, M, x, M1, sr, mr, e1, fun v as1 H1 g1 m1 r1 => ?_⟩
  cases x with
  | bl b =>
    cases ev
    cases r1
    exact ⟨_, rfl, k _ as1 H1 g1 m1 (.bl _)⟩
  | _ => cases ev
theorem se_one {op} (ha : SE K X a fa) : SE K X (.BoolOp op [a] pos) fa := fun hK hc => pe_one (ha hK hc)
theorem se_and (ha : SE K X a fa) (hb : SE K X (.BoolOp .And (b :: rest) pos) fb) : SE K X (.BoolOp .And (a :: b :: rest) pos) (fAnB fa fb) := SE.imp (fun hK hc => pe_and (ha hK hc) (hb hK hc)) fun σ H Q ⟨as, ρ, M, d, M', sr, mr, ev, k⟩ => by
  unfold fAnB at ev
  obtain ⟨⟨x, M1⟩, e1, ev⟩ := Option.bind_eq_some_iff.mp ev
  refine ⟨as, ρ, M, x, M1, sr, mr, e1, fun v as1 H1 g1 m1 r1 => ?_⟩
  cases x with
  | bl c =>
    cases r1
    refine ⟨_, rfl, ?_⟩
    cases c with
    | true =>
      rw [if_pos rfl]
      exact ⟨as1, ρ, M1, d, M', sr.gr g1, m1, by simpa using ev, fun w as2 H2 g2 m2 r2 => k w as2 H2 (g1.trans g2) m2 r2⟩
    | false =>
      rw [if_neg (fun z => nomatch z)]
      cases ev
      exact k _ as1 H1 g1 m1 (.bl _)
  | _ => cases ev
theorem se_or (ha : SE K X a fa) (hb : SE K X (.BoolOp .Or (b :: rest) pos) fb) : SE K X (.BoolOp .Or (a :: b :: rest) pos) (fOrB fa fb) := SE.imp (fun hK hc => pe_or (ha hK hc) (hb hK hc)) fun σ H Q ⟨as, ρ, M, d, M', sr, mr, ev, k⟩ => by
  unfold fOrB at ev
  obtain ⟨⟨x, M1⟩, e1, ev⟩ := Option.bind_eq_some_iff.mp ev
  refine ⟨as, ρ, M, x, M1, sr, mr, e1, fun v as1 H1 g1 m1 r1 => ?_⟩
  cases x with
  | bl c =>
    cases r1
    refine ⟨_, rfl, ?_⟩
    cases c with
    | true =>
      rw [if_pos rfl]
      cases ev
      exact k _ as1 H1 g1 m1 (.bl _)
    | false =>
      rw [if_neg (fun z => nomatch z)]
      exact ⟨as1, ρ, M1, d, M', sr.gr g1, m1, by simpa using ev, fun w as2 H2 g2 m2 r2 => k w as2 H2 (g1.trans g2) m2 r2⟩
  | _ => cases ev
end

/-! ### operators -/
/-- products whose sizes are within the line -/
def MulOk (i j : Int) : Prop := ∃ m n : Nat, i.natAbs < 2 ^ m ∧ j.natAbs < 2 ^ n ∧ m + n ≤ 134217728
open Classical in
noncomputable def gMul : G2
  | .int i, .int j, M => if MulOk i j then some (.int (i * j), M) else none
  | .rf l, .int k, M => match M[l]? with
    | some (.lst ds) => if 0 ≤ k ∧ k ≤ 1000 ∧ ds.length ≤ 100 then some (.rf M.length, M ++ [.lst (List.replicate k.toNat ds).flatten]) else none
    | _ => none
  | _, _, _ => none
def gAdd : G2
  | .int i, .int j, M => some (.int (i + j), M)
  | .str a, .str b, M => if a.length + b.length ≤ 100000 then some (.str (a ++ b), M) else none
  | .tup a, .tup b, M => if a.length + b.length ≤ 100000 then some (.tup (a ++ b), M) else none
  | .rf i, .rf j, M => match M[i]?, M[j]? with
    | some (.lst a), some (.lst b) => if a.length + b.length ≤ 100000 then some (.rf M.length, M ++ [.lst (a ++ b)]) else none
    | _, _ => none
  | _, _, _ => none
def gSub : G2
  | .int i, .int j, M => some (.int (i - j), M)
  | _, _, _ => none
open Classical in
noncomputable def gFd : G2
  | .int i, .int j, M => if j ≠ 0 ∧ Bt 9000 j then some (.int (i.fdiv j), M) else none
  | _, _, _ => none
def gMod : G2
  | .int i, .int j, M => if j ≠ 0 then some (.int (i.fmod j), M) else none
  | _, _, _ => none
def gPow : G2
  | .int i, .int j, M => if 0 ≤ j ∧ j ≤ 1000000 ∧ i.natAbs < 2 ^ 64 then some (.int (i ^ j.toNat), M) else none
  | _, _, _ => none
def gNeg : G1
  | .int i, M => some (.int (-i), M)
  | _, _ => none
def gCmp (p : Int → Int → Bool) : G2
  | .int i, .int j, M => some (.bl (p i j), M)
  | _, _, _ => none
abbrev gLt : G2 := gCmp fun i j => decide (i < j)
abbrev gLe : G2 := gCmp fun i j => decide (i ≤ j)
abbrev gGt : G2 := gCmp fun i j => decide (j < i)
abbrev gGe : G2 := gCmp fun i j => decide (j ≤ i)
def D.isNon : D → Bool
  | .non => true
  | _ => false
/-- x is None -/
def gIsN : G2
  | d, .non, M => some (.bl d.isNon, M)
  | _, _, _ => none
def gNotN : G2
  | d, .non, M => some (.bl (!d.isNon), M)
  | _, _, _ => none
mutual
/-- data as the library's data -/
def D.py : D → Option PyData
  | .non => some .none
  | .bl b => some (.bool b)
  | .int i => some (.int i)
  | .str x => some (.str x)
  | .tup ds => (D.pys ds).map .tuple
  | .rol ds => (D.pys ds).map .list
  | _ => none
def D.pys : List D → Option (List PyData)
  | [] => some []
  | d :: ds => (D.py d).bind fun p => (D.pys ds).map fun r => p :: r
end
def toPy (M : Mem) : D → Option PyData
  | .rf i => match M[i]? with
    | some (.lst ds) => (D.pys ds).map .list
    | _ => none
  | d => d.py
def gEqB (neg : Bool) : G2 := fun x y M => (toPy M x).bind fun d => (toPy M y).bind fun e => if SeqAt.shaped d = true ∧ SeqAt.shaped e = true then some (.bl (if neg then !PyData.eqv d e else PyData.eqv d e), M) else none
abbrev gEq : G2 := gEqB false
abbrev gNe : G2 := gEqB true
/-- x[i] -/
def gIx : G2
  | .tup ds, .int i, M => (atI ds i).map fun d => (d, M)
  | .rol ds, .int i, M => (atI ds i).map fun d => (d, M)
  | .str z, .int i, M => if z.length ≤ 100000 then (atI z.cps.toList i).map fun c => (.str ⟨#[c]⟩, M) else none
  | .rf l, .int i, M => match M[l]? with
    | some (.lst ds) => (atI ds i).map fun d => (d, M)
    | _ => none
  | _, _, _ => none
section
variable {K : Kx} {X : Cx} {as : List Addr} {H : Hp} {M : Mem}
theorem VRs.atI {vs : List V} {ds : List D} {i : Int} {d : D} (h : VRs K as H vs ds) (e : atI ds i = some d) : ∃ v, L2.atI vs i = some v ∧ VR K as H v d := by
  unfold L2.atI at e ⊢
  rw [h.len]
  obtain ⟨j, e1, e2⟩ := Option.bind_eq_some_iff.mp e
  obtain ⟨v, e3, r⟩ := h.get e2
  exact ⟨v, by rw [e1]; exact e3, r⟩
theorem MR.lst (m : MR K as H M) {i : Nat} {a : Addr} {ds : List D} (h : as[i]? = some a) (e : M[i]? = some (.lst ds)) : ∃ xs, H a = some (.lst xs) ∧ VRs K as H xs ds := m.cell i a _ h e
theorem or_sub : X.K = K.K → OpR X (binaryOp .Sub) (rO K gSub) := fun _ pins s σ H x y v u Q I r1 r2 ⟨as, M, dx, dy, d, M', m, q1, q2, ev, k⟩ => by
  cases q1 <;> cases q2 <;> first | cases ev | skip
  exact op_sub pins s σ H _ _ v u Q I r1 r2 ⟨_, _, rfl, rfl, k _ as H Gr.refl m (.int _)⟩
theorem or_add : X.K = K.K → OpR X (binaryOp .Add) (rO K gAdd) := fun hK pins s σ H x y v u Q I r1 r2 hh => by
  obtain ⟨_, Γ⟩ := K
  cases hK
  obtain ⟨as, M, dx, dy, d, M', m, q1, q2, ev, k⟩ := hh
  cases q1 with
  | int i =>
    cases q2 with
    | int j =>
      cases ev
      exact op_add pins s σ H _ _ v u Q I r1 r2 ⟨_, _, rfl, rfl, k _ as H Gr.refl m (.int _)⟩
    | _ => cases ev
  | str a =>
    cases q2 with
    | str b =>
      simp only [gAdd] at ev
      split at ev
      · rename_i hl
        cases ev
        exact op_add_str pins s σ H _ _ v u Q I r1 r2 ⟨_, _, rfl, rfl, lim_ok hl, k _ as H Gr.refl m (.str _)⟩
      · cases ev
    | _ => cases ev
  | @tup a1 xs ds h1 hs1 =>
    cases q2 with
    | @tup a2 ys es h2 hs2 =>
      simp only [gAdd] at ev
      split at ev
      · rename_i hl
        cases ev
        refine op_catA pins s σ H _ _ v u Q I r1 r2 ⟨_, _, xs, ys, rfl, rfl, h1.sq, h2.sq, lim_ok (by rw [hs1.len, hs2.len]; exact hl), fun z => ?_, fun z1 z2 => ?_, fun z1 z2 p hp => ?_⟩
        · have z' := hs1.nil_iff.mp z
          subst z'
          exact k _ as H Gr.refl m (.tup h2 hs2)
        · have z' := hs2.nil_iff.mp z2
          subst z'
          exact k _ as H Gr.refl m (.tup h1 (by simpa using hs1))
        · have g : Gr as H as (upd H p (.tup (xs ++ ys))) := Gr.new hp
          exact k _ as _ g (m.new hp) (.tup (.inl upd_same) ((hs1.append hs2).gr g))
      · cases ev
    | _ => cases ev
  | @rf i1 a1 h1 =>
    cases q2 with
    | @rf i2 a2 h2 =>
      simp only [gAdd] at ev
      split at ev
      · rename_i d1 d2 e1 e2
        split at ev
        · rename_i hl
          cases ev
          obtain ⟨xs, p1, hs1⟩ := m.lst h1 e1
          obtain ⟨ys, p2, hs2⟩ := m.lst h2 e2
          refine op_cat pins s σ H _ _ v u Q I r1 r2 ⟨_, _, xs, ys, rfl, rfl, p1, p2, lim_ok (by rw [hs1.len, hs2.len]; exact hl), fun p hp => ?_⟩
          have g : Gr as H (as ++ [p]) (upd H p (.lst (xs ++ ys))) := Gr.alloc hp
          exact k _ _ _ g (m.alloc hp ⟨_, upd_same, (hs1.append hs2).gr g⟩) (.rf (by rw [← m.len]; simp))
        · cases ev
      · cases ev
    | _ => cases ev
  | _ => cases ev
theorem or_mul : X.K = K.K → OpR X (binaryOp .Mult) (rO K gMul) := fun hK pins s σ H x y v u Q I r1 r2 hh => by
  obtain ⟨_, Γ⟩ := K
  cases hK
  obtain ⟨as, M, dx, dy, d, M', m, q1, q2, ev, k⟩ := hh
  cases q1 with
  | int i =>
    cases q2 with
    | int j =>
      simp only [gMul] at ev
      split at ev
      · rename_i hl
        cases ev
        obtain ⟨m1, n1, h1, h2, h3⟩ := hl
        exact op_mulX pins s σ H _ _ v u Q I r1 r2 ⟨_, _, rfl, rfl, mulx_ok h1 h2 h3, k _ as H Gr.refl m (.int _)⟩
      · cases ev
    | _ => cases ev
  | @rf i1 a1 h1 =>
    cases q2 with
    | int kk =>
      simp only [gMul] at ev
      split at ev
      · rename_i d1 e1
        split at ev
        · rename_i hl
          obtain ⟨l1, l2, l3⟩ := hl
          cases ev
          obtain ⟨xs, p1, hs1⟩ := m.lst h1 e1
          have hz : xs.length * kk.toNat ≤ 100000 := by
            rw [hs1.len]
            exact Nat.le_trans (Nat.mul_le_mul l3 (show kk.toNat ≤ 1000 by omega)) (by decide)
          refine op_rep pins s σ H _ _ v u Q I r1 r2 ⟨_, _, xs, rfl, rfl, p1, by omega, by omega, lim_ok hz, fun p hp => ?_⟩
          have g : Gr as H (as ++ [p]) (upd H p (.lst (List.replicate kk.toNat xs).flatten)) := Gr.alloc hp
          have hf : ∀ n, VRs ⟨X.K, Γ⟩ (as ++ [p]) (upd H p (.lst (List.replicate kk.toNat xs).flatten)) (List.replicate n xs).flatten (List.replicate n d1).flatten := fun n => by
            induction n with
            | zero => exact .nil
            | succ n ih =>
              rw [List.replicate_succ, List.replicate_succ, List.flatten_cons, List.flatten_cons]
              exact (hs1.gr g).append ih
          exact k _ _ _ g (m.alloc hp ⟨_, upd_same, hf _⟩) (.rf (by rw [← m.len]; simp))
        · cases ev
      · cases ev
    | _ => cases ev
  | _ => cases ev
theorem or_fd : X.K = K.K → OpR X (binaryOp .FloorDiv) (rO K gFd) := fun _ pins s σ H x y v u Q I r1 r2 ⟨as, M, dx, dy, d, M', m, q1, q2, ev, k⟩ => by
  cases q1 <;> cases q2 <;> first | (simp only [gFd] at ev; first | cases ev | skip) | skip
  split at ev
  · rename_i hl
    cases ev
    exact op_fdX pins s σ H _ _ v u Q I r1 r2 ⟨_, _, rfl, rfl, hl, k _ as H Gr.refl m (.int _)⟩
  · cases ev
theorem or_mod : X.K = K.K → OpR X (binaryOp .Mod) (rO K gMod) := fun _ pins s σ H x y v u Q I r1 r2 ⟨as, M, dx, dy, d, M', m, q1, q2, ev, k⟩ => by
  cases q1 <;> cases q2 <;> first | (simp only [gMod] at ev; first | cases ev | skip) | skip
  split at ev
  · rename_i hl
    cases ev
    exact op_modN pins s σ H _ _ v u Q I r1 r2 ⟨_, _, rfl, rfl, hl, k _ as H Gr.refl m (.int _)⟩
  · cases ev
theorem or_pow : X.K = K.K → OpR X (binaryOp .Pow) (rO K gPow) := fun _ pins s σ H x y v u Q I r1 r2 ⟨as, M, dx, dy, d, M', m, q1, q2, ev, k⟩ => by
  cases q1 <;> cases q2 <;> first | (simp only [gPow] at ev; first | cases ev | skip) | skip
  split at ev
  · rename_i hl
    cases ev
    exact op_pow pins s σ H _ _ v u Q I r1 r2 ⟨_, _, rfl, rfl, hl, k _ as H Gr.refl m (.int _)⟩
  · cases ev
theorem ur_neg : X.K = K.K → UnR X (unaryOp .USub) (rU1 K gNeg) := fun _ pins s σ H x v Q I r1 ⟨as, M, dx, d, M', m, q1, ev, k⟩ => by
  cases q1 <;> first | cases ev | skip
  exact un_neg pins s σ H _ v Q I r1 ⟨_, rfl, k _ as H Gr.refl m (.int _)⟩
theorem or_cmp {op : CmpOp} {p : Int → Int → Bool} (h : OpR X (compareOp op) (rI0 fun i j => .bl (p i j))) : X.K = K.K → OpR X (compareOp op) (rO K (gCmp p)) := fun _ pins s σ H x y v u Q I r1 r2 ⟨as, M, dx, dy, d, M', m, q1, q2, ev, k⟩ => by
  cases q1 <;> cases q2 <;> first | cases ev | skip
  exact h pins s σ H _ _ v u Q I r1 r2 ⟨_, _, rfl, rfl, k _ as H Gr.refl m (.bl _)⟩
theorem or_lt : X.K = K.K → OpR X (compareOp .Lt) (rO K gLt) := or_cmp op_lt
theorem or_le : X.K = K.K → OpR X (compareOp .LtE) (rO K gLe) := or_cmp op_le
theorem or_gt : X.K = K.K → OpR X (compareOp .Gt) (rO K gGt) := or_cmp op_gt
theorem or_ge : X.K = K.K → OpR X (compareOp .GtE) (rO K gGe) := or_cmp op_ge
theorem VR.isNon {v : V} {d : D} (h : VR K as H v d) : decide (v = .non) = d.isNon := by
  cases h <;> rfl
theorem or_isN : X.K = K.K → OpR X (compareOp .Is) (rO K gIsN) := fun _ pins s σ H x y v u Q I r1 r2 ⟨as, M, dx, dy, d, M', m, q1, q2, ev, k⟩ => by
  cases q2 <;> first | (simp only [gIsN] at ev; first | cases ev | skip) | skip
  exact op_isN pins s σ H _ _ v u Q I r1 r2 ⟨rfl, by rw [q1.isNon]; exact k _ as H Gr.refl m (.bl _)⟩
theorem or_notN : X.K = K.K → OpR X (compareOp .IsNot) (rO K gNotN) := fun _ pins s σ H x y v u Q I r1 r2 ⟨as, M, dx, dy, d, M', m, q1, q2, ev, k⟩ => by
  cases q2 <;> first | (simp only [gNotN] at ev; first | cases ev | skip) | skip
  exact op_notN pins s σ H _ _ v u Q I r1 r2 ⟨rfl, by rw [q1.isNon]; exact k _ as H Gr.refl m (.bl _)⟩
mutual
theorem VR.dp : ∀ {v : V} {d : D} {p : PyData}, VR K as H v d → d.py = some p → Dp K.K H v p
  | _, _, _, .non, e => by cases e; exact .non
  | _, _, _, .bl b, e => by cases e; exact .bl b
  | _, _, _, .int b, e => by cases e; exact .int b
  | _, _, _, .str b, e => by cases e; exact .str b
  | _, _, _, .ty b, e => by cases e
  | _, _, _, .fn b, e => by cases e
  | _, _, _, .tup h hs, e => by
    simp only [D.py, Option.map_eq_some_iff] at e
    obtain ⟨ps, e1, rfl⟩ := e
    exact .tup h.sq (VRs.dp hs e1)
  | _, _, _, .rol h hs, e => by
    simp only [D.py, Option.map_eq_some_iff] at e
    obtain ⟨ps, e1, rfl⟩ := e
    exact .lst h.sq (VRs.dp hs e1)
  | _, _, _, .rf h, e => by cases e
theorem VRs.dp : ∀ {vs : List V} {ds : List D} {ps : List PyData}, VRs K as H vs ds → D.pys ds = some ps → DpAll K.K H vs ps
  | _, _, _, .nil, e => by cases e; exact .nil
  | _, _, _, .cons h hs, e => by
    simp only [D.pys, Option.bind_eq_some_iff, Option.map_eq_some_iff] at e
    obtain ⟨p, e1, r, e2, rfl⟩ := e
    exact .cons (VR.dp h e1) (VRs.dp hs e2)
end
theorem VR.dpM (m : MR K as H M) {v : V} {d : D} {p : PyData} (h : VR K as H v d) (e : toPy M d = some p) : Dp K.K H v p := by
  cases h with
  | @rf i a h =>
    simp only [toPy] at e
    split at e
    · rename_i ds hc
      obtain ⟨ps, e1, rfl⟩ := Option.map_eq_some_iff.mp e
      obtain ⟨xs, p1, hs⟩ := m.lst h hc
      exact .lst (SqL.of p1) (VRs.dp hs e1)
    · cases e
  | non => exact VR.dp (as := as) .non e
  | bl b => exact VR.dp (as := as) (.bl b) e
  | int b => exact VR.dp (as := as) (.int b) e
  | str b => exact VR.dp (as := as) (.str b) e
  | ty b => exact VR.dp (as := as) (.ty b) e
  | fn b => exact VR.dp (as := as) (.fn b) e
  | tup h hs => exact VR.dp (as := as) (.tup h hs) e
  | rol h hs => exact VR.dp (as := as) (.rol h hs) e
theorem or_eq (hu : X.A.units + 64 < cLine) : X.K = K.K → OpR X (compareOp .Eq) (rO K gEq) := fun hK pins s σ H x y v u Q I r1 r2 ⟨as, M, dx, dy, d, M', m, q1, q2, ev, k⟩ => by
  obtain ⟨_, Γ⟩ := K
  cases hK
  simp only [gEqB, Option.bind_eq_some_iff] at ev
  obtain ⟨a, e1, b, e2, ev⟩ := ev
  split at ev
  · rename_i hs
    cases ev
    exact op_eqD hu pins s σ H _ _ v u Q I r1 r2 ⟨a, b, q1.dpM m e1, q2.dpM m e2, hs.1, hs.2, k _ as H Gr.refl m (.bl _)⟩
  · cases ev
theorem or_ne (hu : X.A.units + 64 < cLine) : X.K = K.K → OpR X (compareOp .NotEq) (rO K gNe) := fun hK pins s σ H x y v u Q I r1 r2 ⟨as, M, dx, dy, d, M', m, q1, q2, ev, k⟩ => by
  obtain ⟨_, Γ⟩ := K
  cases hK
  simp only [gEqB, Option.bind_eq_some_iff] at ev
  obtain ⟨a, e1, b, e2, ev⟩ := ev
  split at ev
  · rename_i hs
    cases ev
    exact op_neD hu pins s σ H _ _ v u Q I r1 r2 ⟨a, b, q1.dpM m e1, q2.dpM m e2, hs.1, hs.2, k _ as H Gr.refl m (.bl _)⟩
  · cases ev
theorem xr_ix : X.K = K.K → IxR X (rO K gIx) := fun hK a b pins s σ H x y v u Q I r1 r2 hh hp => by
  obtain ⟨_, Γ⟩ := K
  cases hK
  obtain ⟨as, M, dx, dy, d, M', m, q1, q2, ev, k⟩ := hh
  cases q1 with
  | str z =>
    cases q2 with
    | int i =>
      simp only [gIx] at ev
      split at ev
      · rename_i hl
        obtain ⟨c, e1, ev⟩ := Option.map_eq_some_iff.mp ev
        cases ev
        exact ix_str a b pins s σ H _ _ v u Q I r1 r2 ⟨_, _, c, rfl, rfl, lim_ok hl, e1, k _ as H Gr.refl m (.str _)⟩ hp
      · cases ev
    | _ => cases ev
  | tup h1 hs1 =>
    cases q2 with
    | int i =>
      obtain ⟨d', e1, ev⟩ := Option.map_eq_some_iff.mp ev
      cases ev
      obtain ⟨v1, e2, r⟩ := hs1.atI e1
      exact ix_tup a b pins s σ H _ _ v u Q I r1 r2 ⟨_, _, _, v1, rfl, rfl, h1.sq, e2, k _ as H Gr.refl m r⟩ hp
    | _ => cases ev
  | rol h1 hs1 =>
    cases q2 with
    | int i =>
      obtain ⟨d', e1, ev⟩ := Option.map_eq_some_iff.mp ev
      cases ev
      obtain ⟨v1, e2, r⟩ := hs1.atI e1
      exact ix_list a b pins s σ H _ _ v u Q I r1 r2 ⟨_, _, _, v1, rfl, rfl, h1.sq, e2, k _ as H Gr.refl m r⟩ hp
    | _ => cases ev
  | @rf i1 a1 h1 =>
    cases q2 with
    | int i =>
      simp only [gIx] at ev
      split at ev
      · rename_i ds hc
        obtain ⟨d', e1, ev⟩ := Option.map_eq_some_iff.mp ev
        cases ev
        obtain ⟨xs, p1, hs⟩ := m.lst h1 hc
        obtain ⟨v1, e2, r⟩ := hs.atI e1
        exact ix_list a b pins s σ H _ _ v u Q I r1 r2 ⟨_, _, _, v1, rfl, rfl, SqL.of p1, e2, k _ as H Gr.refl m r⟩ hp
      · cases ev
    | _ => cases ev
  | _ => cases ev
end

/-! ### targets, statements, loops, comprehensions -/
inductive Fl where
  | nx (ρ : Rho)
  | rt (d : D)
  | bk (ρ : Rho)
  | ct (ρ : Rho)
abbrev FS := Rho → Mem → Option (Fl × Mem)
abbrev FG := D → Rho → Option Rho
/-- a target that fills slots: those of vs alone -/
def rG (K : Kx) (vs : List Nat) (f : FG) : TG := fun v σ H Q => ∃ as ρ d ρ', SR K as H σ ρ ∧ VR K as H v d ∧ f d ρ = some ρ' ∧ ∀ σ', SR K as H σ' ρ' → wipe σ' vs = wipe σ vs → Q σ' H
def SG (K : Kx) (X : Cx) (vs : List Nat) (e : Expr) (f : FG) : Prop := X.K = K.K → X.calm = true → PG X e (rG K vs f)
abbrev FGs := List D → Rho → Option Rho
def rGs (K : Kx) (vs : List Nat) (f : FGs) : TGs := fun us σ H Q => ∃ as ρ ds ρ', SR K as H σ ρ ∧ VRs K as H us ds ∧ f ds ρ = some ρ' ∧ ∀ σ', SR K as H σ' ρ' → wipe σ' vs = wipe σ vs → Q σ' H
def SGs (K : Kx) (X : Cx) (vs : List Nat) (es : List Expr) (f : FGs) : Prop := X.K = K.K → X.calm = true → PGs X es (rGs K vs f)
theorem pgs_mono {X : Cx} {es : List Expr} {t t' : TGs} (h : PGs X es t) (m : ∀ v σ H Q, t' v σ H Q → t v σ H Q) : PGs X es t' := ⟨fun pins s σ H v u Q I r q => h.run pins s σ H v u Q I r (m v σ H Q q)⟩
def gN (i : Nat) : FG := fun d ρ => some (ρ.set i (some d))
def gsNil : FGs := fun ds ρ => match ds with
  | [] => some ρ
  | _ => none
def gsCons (g : FG) (gs : FGs) : FGs := fun ds ρ => match ds with
  | d :: r => (g d ρ).bind fun ρ1 => gs r ρ1
  | _ => none
def gT (n : Nat) (gs : FGs) : FG := fun d ρ => match d with
  | .tup ds => if ds.length = n then gs ds ρ else none
  | _ => none
theorem wipe_set {σ : L2.St} {i : Nat} {x : Option V} : ∀ {vs : List Nat}, i ∈ vs → wipe (σ.set i x) vs = wipe σ vs
  | v :: vs, h => by
    unfold wipe
    by_cases hi : i ∈ vs
    · rw [wipe_set hi]
    · have hv : i = v := by
        rcases List.mem_cons.mp h with h | h
        · exact h
        · exact absurd h hi
      subst hv
      have : ∀ {us : List Nat}, i ∉ us → wipe (σ.set i x) us = (wipe σ us).set i x := fun {us} hn => by
        induction us with
        | nil => rfl
        | cons u us ih =>
          unfold wipe
          have h1 : i ≠ u := fun z => hn (by rw [z]; exact List.mem_cons_self)
          rw [ih fun z => hn (List.mem_cons_of_mem _ z), List.set_comm _ _ h1]
      rw [this hi, List.set_set]
section
variable {K : Kx} {X : Cx} {vs : List Nat} {pos : Pos}
theorem sg_name {i : Nat} {x : Str} (hi : i ∈ vs) (hN : X.N.Nodup) (hx : X.N[i]? = some x) (hl : Loc X.env.scope x) (hf : X.fn x = true ∨ X.env.scope.names.lookup x = some .local := by first | exact .inl rfl | exact .inr rfl | assumption) : SG K X vs (.Name x pos) (gN i) :=
  fun _ _ => pg_mono (pg_name hN hx hl hf) fun v σ H Q ⟨as, ρ, d, ρ', sr, r, ev, k⟩ => by
    cases ev
    exact k _ (sr.set r i) (wipe_set hi)
theorem sgs_nil : SGs K X vs [] gsNil := fun _ _ => pgs_mono pgs_nil fun us σ H Q ⟨as, ρ, ds, ρ', sr, r, ev, k⟩ => by
  cases r with
  | nil => cases ev; exact ⟨rfl, k _ sr rfl⟩
  | cons _ _ => cases ev
theorem sgs_cons {e : Expr} {es : List Expr} {g : FG} {gs : FGs} (h1 : SG K X vs e g) (h2 : SGs K X vs es gs) (hs : (assignEach (e :: es) X.env).map (·.2) = assign e X.env :: (assignEach es X.env).map (·.2) := by rfl) : SGs K X vs (e :: es) (gsCons g gs) :=
  fun hK hc => pgs_mono (pgs_cons (h1 hK hc) (h2 hK hc) hs) fun us σ H Q ⟨as, ρ, ds, ρ', sr, r, ev, k⟩ => by
    cases r with
    | nil => cases ev
    | cons r rs =>
      simp only [gsCons] at ev
      obtain ⟨ρ1, e1, ev⟩ := Option.bind_eq_some_iff.mp ev
      exact ⟨_, _, rfl, as, ρ, _, ρ1, sr, r, e1, fun σ1 s1 w1 => ⟨as, ρ1, _, ρ', s1, rs, ev, fun σ2 s2 w2 => k σ2 s2 (w2.trans w1)⟩⟩
theorem sg_tup {es : List Expr} {kk : Nat} {gs : FGs} {n : Nat} (h : SGs K X vs es gs) (hn : (assignEach es X.env).length = n := by rfl) (hst : (assignEach es X.env).findIdx? (·.1) = none := by rfl) : SG K X vs (.Tuple es kk pos) (gT n gs) :=
  fun hK hc => by
    obtain ⟨_, Γ⟩ := K
    cases hK
    refine pg_mono (pg_tup hc (h rfl hc) hn hst) fun v σ H Q ⟨as, ρ, d, ρ', sr, r, ev, k⟩ => ?_
    cases r with
    | @tup a xs ds h1 hs =>
      simp only [gT] at ev
      split at ev
      · rename_i hl
        exact ⟨a, xs, rfl, h1.sq, by rw [hs.len]; exact hl, as, ρ, ds, ρ', sr, hs, ev, k⟩
      · cases ev
    | _ => cases ev
end
def FlOk (K : Kx) (as : List Addr) (H : Hp) (M' : Mem) (D : Ends) : Fl → Prop
  | .nx ρ' => ∀ σ' as' H', Gr as H as' H' → MR K as' H' M' → SR K as' H' σ' ρ' → D.nx σ' H'
  | .bk ρ' => ∀ σ' as' H', Gr as H as' H' → MR K as' H' M' → SR K as' H' σ' ρ' → D.bk σ' H'
  | .ct ρ' => ∀ σ' as' H', Gr as H as' H' → MR K as' H' M' → SR K as' H' σ' ρ' → D.ct σ' H'
  | .rt d => ∀ v as' H', Gr as H as' H' → MR K as' H' M' → VR K as' H' v d → D.rt v H'
def rS (K : Kx) (f : FS) : TS := fun D σ H => ∃ as ρ M fl M', SR K as H σ ρ ∧ MR K as H M ∧ f ρ M = some (fl, M') ∧ FlOk K as H M' D fl
def SS (K : Kx) (X : Cx) (st : Stmt) (f : FS) : Prop := X.K = K.K → X.calm = true → PS X st (rS K f)
def SSs (K : Kx) (X : Cx) (sts : List Stmt) (f : FS) : Prop := X.K = K.K → X.calm = true → PSs X sts (rS K f)
theorem FlOk.gr {K : Kx} {as as' : List Addr} {H H' : Hp} {M' : Mem} {D : Ends} (g : Gr as H as' H') : ∀ {fl : Fl}, FlOk K as H M' D fl → FlOk K as' H' M' D fl
  | .nx _, h => fun σ a2 H2 g2 => h σ a2 H2 (g.trans g2)
  | .bk _, h => fun σ a2 H2 g2 => h σ a2 H2 (g.trans g2)
  | .ct _, h => fun σ a2 H2 g2 => h σ a2 H2 (g.trans g2)
  | .rt _, h => fun σ a2 H2 g2 => h σ a2 H2 (g.trans g2)
def sNext : FS := fun ρ M => some (.nx ρ, M)
def sSeq (a b : FS) : FS := fun ρ M => (a ρ M).bind fun p => match p.1 with
  | .nx ρ1 => b ρ1 p.2
  | fl => some (fl, p.2)
def sAsg (f : FE) (g : FG) : FS := fun ρ M => (f ρ M).bind fun p => (g p.1 ρ).map fun ρ1 => (.nx ρ1, p.2)
def sPar (i j : Nat) (fa : FA) : FS := fun ρ M => (fa ρ M).bind fun p => match p.1 with
  | [d, e] => some (.nx ((ρ.set i (some d)).set j (some e)), p.2)
  | _ => none
def sRet (f : FE) : FS := fun ρ M => (f ρ M).map fun p => (.rt p.1, p.2)
def sDrop (f : FE) : FS := fun ρ M => (f ρ M).map fun p => (.nx ρ, p.2)
def sIf (c : FT) (a b : FS) : FS := fun ρ M => (c ρ M).bind fun p => if p.1 = true then a ρ p.2 else b ρ p.2
def sNever : FS := fun _ _ => none
def sBrk : FS := fun ρ M => some (.bk ρ, M)
def sCont : FS := fun ρ M => some (.ct ρ, M)
def sRetN : FS := fun _ M => some (.rt .non, M)
section
variable {K : Kx} {X : Cx} {st : Stmt} {sts : List Stmt} {f h : FS} {e : Expr} {fe : FE} {pos : Pos}
theorem ss_pass : SS K X (.Pass pos) sNext := fun _ _ => ps_mono ps_pass fun D σ H ⟨as, ρ, M, fl, M', sr, mr, ev, k⟩ => by
  cases ev
  exact k σ as H Gr.refl mr sr
theorem ss_brk : SS K X (.Break pos) sBrk := fun _ _ => ps_mono ps_break fun D σ H ⟨as, ρ, M, fl, M', sr, mr, ev, k⟩ => by
  cases ev
  exact k σ as H Gr.refl mr sr
theorem ss_cont : SS K X (.Continue pos) sCont := fun _ _ => ps_mono ps_continue fun D σ H ⟨as, ρ, M, fl, M', sr, mr, ev, k⟩ => by
  cases ev
  exact k σ as H Gr.refl mr sr
theorem ss_never : SS K X st sNever := fun _ _ => ps_mono ps_never fun D σ H ⟨as, ρ, M, fl, M', sr, mr, ev, k⟩ => by cases ev
theorem ss_retN : SS K X (.Return none pos) sRetN := fun _ _ => ps_mono ps_retN fun D σ H ⟨as, ρ, M, fl, M', sr, mr, ev, k⟩ => by
  cases ev
  exact k .non as H Gr.refl mr .non
theorem ss_ret (he : SE K X e fe) : SS K X (.Return (some e) pos) (sRet fe) := fun hK hc => ps_mono (ps_ret (he hK hc)) fun D σ H ⟨as, ρ, M, fl, M', sr, mr, ev, k⟩ => by
  unfold sRet at ev
  obtain ⟨⟨d, M1⟩, e1, ev⟩ := Option.map_eq_some_iff.mp ev
  cases ev
  exact ⟨as, ρ, M, d, _, sr, mr, e1, fun v as1 H1 g1 m1 r1 => k v as1 H1 g1 m1 r1⟩
theorem ss_expr (he : SE K X e fe) (hs : swapsWith e none pos.line X.env = pure false := by rfl) : SS K X (.Expr e pos) (sDrop fe) := fun hK hc => ps_mono (ps_expr (he hK hc) hs) fun D σ H ⟨as, ρ, M, fl, M', sr, mr, ev, k⟩ => by
  unfold sDrop at ev
  obtain ⟨⟨d, M1⟩, e1, ev⟩ := Option.map_eq_some_iff.mp ev
  cases ev
  exact ⟨as, ρ, M, d, _, sr, mr, e1, fun v as1 H1 g1 m1 r1 => k σ as1 H1 g1 m1 (sr.gr g1)⟩
theorem ss_set {i : Nat} {x : Str} {pos' : Pos} (hN : X.N.Nodup) (hi : X.N[i]? = some x) (hx : Loc X.env.scope x) (he : SE K X e fe) (hs : swapsWith e (some (.Name x pos')) pos.line X.env = pure false := by rfl) (hf : X.fn x = true ∨ X.env.scope.names.lookup x = some .local := by first | exact .inl rfl | exact .inr rfl | assumption) :
    SS K X (.Assign [.Name x pos'] e pos) (sAsg fe (gN i)) := fun hK hc => ps_mono (ps_set hN hi hx (he hK hc) hs hf) fun D σ H ⟨as, ρ, M, fl, M', sr, mr, ev, k⟩ => by
  unfold sAsg at ev
  obtain ⟨⟨d, M1⟩, e1, ev⟩ := Option.bind_eq_some_iff.mp ev
  cases ev
  exact ⟨as, ρ, M, d, _, sr, mr, e1, fun v as1 H1 g1 m1 r1 => k _ as1 H1 g1 m1 ((sr.gr g1).set r1 i)⟩
theorem ss_asg {tg : Expr} {vs : List Nat} {g : FG} (he : SE K X e fe) (hg : SG K X vs tg g) (hs : swapsWithSole [tg] e pos.line X.env = pure false := by rfl) (hw : swappedStores [tg] e X.env = pure none := by rfl)
    (h1 : (assignEach [tg] X.env).map (·.2) = [assign tg X.env] := by rfl) : SS K X (.Assign [tg] e pos) (sAsg fe g) := fun hK hc => ps_mono (ps_asg (he hK hc) (hg hK hc) hs hw h1) fun D σ H ⟨as, ρ, M, fl, M', sr, mr, ev, k⟩ => by
  unfold sAsg at ev
  obtain ⟨⟨d, M1⟩, e1, ev⟩ := Option.bind_eq_some_iff.mp ev
  obtain ⟨ρ1, e2, ev⟩ := Option.map_eq_some_iff.mp ev
  cases ev
  exact ⟨as, ρ, M, d, _, sr, mr, e1, fun v as1 H1 g1 m1 r1 => ⟨as1, ρ, d, ρ1, sr.gr g1, r1, e2, fun σ' s' _ => k σ' as1 H1 g1 m1 s'⟩⟩
theorem ss_par {i j : Nat} {x y : Str} {a b : Expr} {fa : FA} {px py pt : Pos} {kt k2 pt2} (hN : X.N.Nodup) (hi : X.N[i]? = some x) (hj : X.N[j]? = some y) (hij : i ≠ j)
    (hx : X.env.scope.names.lookup x = some .local) (hy : X.env.scope.names.lookup y = some .local) (ha : SA K X [a, b] fa)
    (hw : swappedStores [.Tuple [.Name x px, .Name y py] kt pt] (.Tuple [a, b] k2 pt2) X.env = pure (some [x, y]))
    (hs : swapsWithSole [.Tuple [.Name x px, .Name y py] kt pt] (.Tuple [a, b] k2 pt2) pos.line X.env = pure false := by rfl) :
    SS K X (.Assign [.Tuple [.Name x px, .Name y py] kt pt] (.Tuple [a, b] k2 pt2) pos) (sPar i j fa) := fun hK hc => ps_mono (ps_par hc hN hi hj hij hx hy (ha hK hc) hw hs) fun D σ H ⟨as, ρ, M, fl, M', sr, mr, ev, k⟩ => by
  unfold sPar at ev
  obtain ⟨⟨ds, M1⟩, e1, ev⟩ := Option.bind_eq_some_iff.mp ev
  dsimp only at ev
  split at ev
  · cases ev
    refine ⟨as, ρ, M, _, _, sr, mr, e1, fun vs as1 H1 g1 m1 r1 => ?_⟩
    cases r1 with
    | cons r r1 =>
      cases r1 with
      | cons r' r1 =>
        cases r1
        exact ⟨_, _, rfl, k _ as1 H1 g1 m1 (((sr.gr g1).set r i).set r' j)⟩
  · cases ev
theorem ss_if {c : Expr} {fc : FT} {a b : List Stmt} {fa fb : FS} (hc : ST K X c fc) (ha : SSs K X a fa) (hb : SSs K X b fb) : SS K X (.If c a b pos) (sIf fc fa fb) := fun hK hq => ps_mono (ps_if (hc hK hq) (ha hK hq) (hb hK hq)) fun D σ H ⟨as, ρ, M, fl, M', sr, mr, ev, k⟩ => by
  unfold sIf at ev
  obtain ⟨⟨x, M1⟩, e1, ev⟩ := Option.bind_eq_some_iff.mp ev
  refine ⟨as, ρ, M, x, M1, sr, mr, e1, fun as1 H1 g1 m1 => ?_⟩
  cases x with
  | true =>
    rw [if_pos rfl] at ev ⊢
    exact ⟨as1, ρ, M1, fl, M', sr.gr g1, m1, ev, k.gr g1⟩
  | false =>
    rw [if_neg (fun z => nomatch z)] at ev ⊢
    exact ⟨as1, ρ, M1, fl, M', sr.gr g1, m1, ev, k.gr g1⟩
theorem rS.two {fa fb : FS} {D : Ends} {σ : L2.St} {H : Hp} (h : rS K (sSeq fa fb) D σ H) : tSeq (rS K fa) (rS K fb) D σ H := by
  obtain ⟨as, ρ, M, fl, M', sr, mr, ev, k⟩ := h
  unfold sSeq at ev
  obtain ⟨⟨x, M1⟩, e1, ev⟩ := Option.bind_eq_some_iff.mp ev
  refine ⟨as, ρ, M, x, M1, sr, mr, e1, ?_⟩
  cases x with
  | nx ρ1 => exact fun σ' as1 H1 g1 m1 s1 => ⟨as1, ρ1, M1, fl, M', s1, m1, ev, k.gr g1⟩
  | rt d => cases ev; exact k
  | bk d => cases ev; exact k
  | ct d => cases ev; exact k
theorem sss_nil : SSs K X [] sNext := fun _ _ => pss_mono pss_nil fun D σ H ⟨as, ρ, M, fl, M', sr, mr, ev, k⟩ => by
  cases ev
  exact k σ as H Gr.refl mr sr
theorem sss_one (hs : SS K X st f) : SSs K X [st] f := fun hK hc => pss_one (hs hK hc)
theorem sss_cons (hs : SS K X st f) (hr : SSs K X sts h) : SSs K X (st :: sts) (sSeq f h) := fun hK hc => pss_mono (pss_cons (hs hK hc) (hr hK hc)) fun D σ H => rS.two
/-! while -/
def wl (c : FT) (b : FS) : Nat → Rho → Mem → Option (Fl × Mem)
  | 0, _, _ => none
  | n + 1, ρ, M => (c ρ M).bind fun p => if p.1 = true then (b ρ p.2).bind fun q => match q.1 with
      | .nx ρ1 => wl c b n ρ1 q.2
      | .ct ρ1 => wl c b n ρ1 q.2
      | .bk ρ1 => some (.nx ρ1, q.2)
      | .rt d => some (.rt d, q.2)
    else some (.nx ρ, p.2)
theorem wl_mono {c : FT} {b : FS} : ∀ {n : Nat} {ρ : Rho} {M : Mem} {r : Fl × Mem}, wl c b n ρ M = some r → wl c b (n + 1) ρ M = some r
  | 0, _, _, _, e => by cases e
  | n + 1, ρ, M, r, e => by
    unfold wl at e ⊢
    obtain ⟨p, e1, e⟩ := Option.bind_eq_some_iff.mp e
    rw [e1]
    dsimp only [Option.bind_some]
    split at e
    · rename_i h
      rw [if_pos h]
      obtain ⟨q, e2, e⟩ := Option.bind_eq_some_iff.mp e
      rw [e2]
      dsimp only [Option.bind_some]
      cases hq : q.1 with
      | nx ρ1 => rw [hq] at e; exact wl_mono e
      | ct ρ1 => rw [hq] at e; exact wl_mono e
      | bk ρ1 => rw [hq] at e; exact e
      | rt d => rw [hq] at e; exact e
    · rename_i h
      rw [if_neg h]
      exact e
theorem wl_le {c : FT} {b : FS} {m n : Nat} {ρ : Rho} {M : Mem} {r : Fl × Mem} (h : m ≤ n) (e : wl c b m ρ M = some r) : wl c b n ρ M = some r := by
  induction h with
  | refl => exact e
  | step _ ih => exact wl_mono ih
open Classical in
noncomputable def sWhile (c : FT) (b : FS) : FS := fun ρ M => if h : ∃ r n, wl c b n ρ M = some r then some h.choose else none
theorem sWhile_of {c : FT} {b : FS} {n : Nat} {ρ : Rho} {M : Mem} {r : Fl × Mem} (e : wl c b n ρ M = some r) : sWhile c b ρ M = some r := by
  have h : ∃ r n, wl c b n ρ M = some r := ⟨r, n, e⟩
  unfold sWhile
  rw [dif_pos h]
  obtain ⟨m, q⟩ := h.choose_spec
  have h1 := wl_le (Nat.le_max_left m n) q
  have h2 := wl_le (Nat.le_max_right m n) e
  rw [h1] at h2
  exact h2
theorem of_sWhile {c : FT} {b : FS} {ρ : Rho} {M : Mem} {r : Fl × Mem} (e : sWhile c b ρ M = some r) : ∃ n, wl c b n ρ M = some r := by
  unfold sWhile at e
  split at e
  · rename_i h
    cases e
    exact h.choose_spec
  · cases e
theorem ss_while {c : Expr} {body : List Stmt} {fc : FT} {fb : FS} (hp : PassesOwn (model X.prog X.w) X.A X.env X.xe) (hc : ST K X c fc) (hb : SSs K X body fb) : SS K X (.While c body [] pos) (sWhile fc fb) :=
  fun hK hq => ps_mono (ps_while hp (hc hK hq) (hb hK hq)) fun D σ H ⟨as, ρ, M, fl, M', sr, mr, ev, k⟩ => by
    obtain ⟨n, ev⟩ := of_sWhile ev
    refine ⟨fun m σ H => ∃ as ρ M, SR K as H σ ρ ∧ MR K as H M ∧ wl fc fb m ρ M = some (fl, M') ∧ FlOk K as H M' D fl, ⟨n, as, ρ, M, sr, mr, ev, k⟩, ?_⟩
    rintro m σ H ⟨as, ρ, M, sr, mr, ev, k⟩
    cases m with
    | zero => cases ev
    | succ m =>
      unfold wl at ev
      obtain ⟨⟨x, M1⟩, e1, ev⟩ := Option.bind_eq_some_iff.mp ev
      refine ⟨as, ρ, M, x, M1, sr, mr, e1, fun as1 H1 g1 m1 => ?_⟩
      cases x with
      | false =>
        rw [if_neg (fun z => nomatch z)] at ev ⊢
        cases ev
        exact k σ as1 H1 g1 m1 (sr.gr g1)
      | true =>
        rw [if_pos rfl] at ev ⊢
        obtain ⟨⟨y, M2⟩, e2, ev⟩ := Option.bind_eq_some_iff.mp ev
        refine ⟨fun σ H => ∃ as ρ M, SR K as H σ ρ ∧ MR K as H M ∧ wl fc fb m ρ M = some (fl, M') ∧ FlOk K as H M' D fl, fun σ' H' hN => ⟨m, Nat.lt_succ_self m, hN⟩, as1, ρ, M1, y, M2, sr.gr g1, m1, e2, ?_⟩
        cases y with
        | nx ρ1 => exact fun σ' as2 H2 g2 m2 s2 => ⟨as2, ρ1, M2, s2, m2, ev, (k.gr g1).gr g2⟩
        | ct ρ1 => exact fun σ' as2 H2 g2 m2 s2 => ⟨as2, ρ1, M2, s2, m2, ev, (k.gr g1).gr g2⟩
        | bk ρ1 => cases ev; exact k.gr g1
        | rt d => cases ev; exact k.gr g1
end

/-! ### what is walked: its items, and what must stand meanwhile -/
abbrev Src := List D × (Mem → Prop)
abbrev FI := Rho → Mem → Option (Src × Mem)
structure ItR (K : Kx) (as : List Addr) (H : Hp) (J : It) (s : Src) : Prop where
  stop : ∀ as' H' M, Gr as H as' H' → MR K as' H' M → s.2 M → J.stop s.1.length H'
  go : ∀ as' H' M (i : Nat) (d : D), Gr as H as' H' → MR K as' H' M → s.2 M → s.1[i]? = some d → J.go i H' ∧ ∀ x H2, J.yld i H' x H2 → Gr as' H' as' H2 ∧ MR K as' H2 M ∧ VR K as' H2 x d
def rI (K : Kx) (f : FI) : TI := fun σ H R => ∃ as ρ M s M', SR K as H σ ρ ∧ MR K as H M ∧ f ρ M = some (s, M') ∧ ∀ J as' H', Gr as H as' H' → MR K as' H' M' → ItR K as' H' J s → R J H'
def SI (K : Kx) (X : Cx) (tg e : Expr) (f : FI) : Prop := X.K = K.K → X.calm = true → PI X tg e (rI K f)
theorem ItR.gr {K : Kx} {as as' : List Addr} {H H' : Hp} {J : It} {s : Src} (g : Gr as H as' H') (h : ItR K as H J s) : ItR K as' H' J s :=
  ⟨fun a2 H2 M g2 => h.stop a2 H2 M (g.trans g2), fun a2 H2 M i d g2 => h.go a2 H2 M i d (g.trans g2)⟩
open Classical in
noncomputable def runG (gd : Mem → Prop) (body : D → Rho → Mem → Option (Fl × Mem)) : List D → Rho → Mem → Option (Fl × Mem)
  | [], ρ, M => if gd M then some (.nx ρ, M) else none
  | d :: ds, ρ, M => if gd M then (body d ρ M).bind fun q => match q.1 with
      | .nx ρ1 => runG gd body ds ρ1 q.2
      | .ct ρ1 => runG gd body ds ρ1 q.2
      | .bk ρ1 => some (.nx ρ1, q.2)
      | .rt d => some (.rt d, q.2)
    else none
def bodyG (g : FG) (b : FS) : D → Rho → Mem → Option (Fl × Mem) := fun d ρ M => (g d ρ).bind fun ρ1 => b ρ1 M
noncomputable def sFor (fi : FI) (g : FG) (b : FS) : FS := fun ρ M => (fi ρ M).bind fun p => runG p.1.2 (bodyG g b) p.1.1 ρ p.2
/-! the items that are made, one by one -/
open Classical in
noncomputable def mapG (gd : Mem → Prop) (f : D → Mem → Option (Option D × Mem)) : List D → Mem → Option (List D × Mem)
  | [], M => if gd M then some ([], M) else none
  | d :: ds, M => if gd M then (f d M).bind fun p => (mapG gd f ds p.2).bind fun q => some (p.1.toList ++ q.1, q.2) else none
def wipeD (ρ : Rho) : List Nat → Rho
  | [] => ρ
  | v :: vs => (wipeD ρ vs).set v none
def itemG (g : FG) (tt : FT) (te : FE) (ρ : Rho) : D → Mem → Option (Option D × Mem) := fun d M => (g d ρ).bind fun ρ1 => (tt ρ1 M).bind fun p => if p.1 = true then (te ρ1 p.2).map fun q => (some q.1, q.2) else some (none, p.2)
noncomputable def fLc (fi : FI) (g : FG) (tt : FT) (te : FE) (vs : List Nat) : FE := fun ρ M => (fi ρ M).bind fun p => (mapG p.1.2 (itemG g tt te (wipeD ρ vs)) p.1.1 p.2).bind fun q => if p.1.1.length ≤ 100000 then some (.rf q.2.length, q.2 ++ [.lst q.1]) else none
theorem ite_y {c A B : Prop} [Decidable c] (h : c) (a : A) : if c then A else B := by
  rw [if_pos h]
  exact a
theorem ite_n {c A B : Prop} [Decidable c] (h : ¬ c) (a : B) : if c then A else B := by
  rw [if_neg h]
  exact a
def tYesD : FT := fun _ M => some (true, M)
section
variable {K : Kx} {X : Cx} {pos : Pos} {tg e : Expr}
theorem ss_for {iter : Expr} {body : List Stmt} {fi : FI} {vs : List Nat} {g : FG} {fb : FS} (hp : PassesOwn (model X.prog X.w) X.A X.env X.xe)
    (hi : SI K X tg iter fi) (hg : SG K X vs tg g) (hb : SSs K X body fb) (hs : ∀ x, foldedSetIterable iter X.env x = pure x := by intro _; rfl) : SS K X (.For tg iter body [] pos) (sFor fi g fb) :=
  fun hK hc => ps_mono (ps_for hp hc (hi hK hc) (hg hK hc) (hb hK hc) hs) fun D σ H ⟨as, ρ, M, fl, M', sr, mr, ev, k⟩ => by
    unfold sFor at ev
    obtain ⟨⟨⟨ds, gd⟩, M1⟩, e1, ev⟩ := Option.bind_eq_some_iff.mp ev
    refine ⟨as, ρ, M, (ds, gd), M1, sr, mr, e1, fun J as1 H1 g1 m1 it => ?_⟩
    refine ⟨fun i m σ H => i ≤ ds.length ∧ m = ds.length - i ∧ ∃ as ρ M, Gr as1 H1 as H ∧ SR K as H σ ρ ∧ MR K as H M ∧ runG gd (bodyG g fb) (ds.drop i) ρ M = some (fl, M') ∧ FlOk K as H M' D fl,
      ⟨ds.length, Nat.zero_le _, rfl, as1, ρ, M1, Gr.refl, sr.gr g1, m1, by simpa using ev, k.gr g1⟩, ?_⟩
    rintro i m σ H ⟨hi, rfl, as, ρ, M, g2, sr, mr, ev, k⟩
    by_cases hl : i < ds.length
    · rw [List.drop_eq_getElem_cons hl] at ev
      unfold runG at ev
      split at ev
      · rename_i hgd
        have hd : ds[i]? = some ds[i] := List.getElem?_eq_getElem hl
        obtain ⟨hgo, hy⟩ := it.go as H M i _ g2 mr hgd hd
        obtain ⟨⟨y, M2⟩, e2, ev⟩ := Option.bind_eq_some_iff.mp ev
        unfold bodyG at e2
        obtain ⟨ρ1, e3, e2⟩ := Option.bind_eq_some_iff.mp e2
        refine .inr ⟨hgo, fun σ H => ∃ as ρ M, Gr as1 H1 as H ∧ SR K as H σ ρ ∧ MR K as H M ∧ runG gd (bodyG g fb) (ds.drop (i + 1)) ρ M = some (fl, M') ∧ FlOk K as H M' D fl, fun σ' H' hN => ⟨ds.length - (i + 1), by omega, hl, rfl, hN⟩, fun x H3 hx => ?_⟩
        obtain ⟨g3, m3, r3⟩ := hy x H3 hx
        refine ⟨as, ρ, _, ρ1, sr.gr g3, r3, e3, fun σ4 s4 _ => ⟨as, ρ1, M, y, M2, s4, m3, e2, ?_⟩⟩
        cases y with
        | nx ρ2 => exact fun σ' as5 H5 g5 m5 s5 => ⟨as5, ρ2, M2, (g2.trans g3).trans g5, s5, m5, ev, (k.gr g3).gr g5⟩
        | ct ρ2 => exact fun σ' as5 H5 g5 m5 s5 => ⟨as5, ρ2, M2, (g2.trans g3).trans g5, s5, m5, ev, (k.gr g3).gr g5⟩
        | bk ρ2 => cases ev; exact k.gr g3
        | rt d => cases ev; exact k.gr g3
      · cases ev
    · have hi' : i = ds.length := by omega
      subst hi'
      rw [List.drop_length] at ev
      unfold runG at ev
      split at ev
      · rename_i hgd
        cases ev
        exact .inl ⟨it.stop as H _ g2 mr hgd, k σ as H Gr.refl mr sr⟩
      · cases ev
theorem SR.wipe {as : List Addr} {H : Hp} {σ : L2.St} {ρ : Rho} (h : SR K as H σ ρ) : ∀ vs : List Nat, SR K as H (wipe σ vs) (wipeD ρ vs)
  | [] => h
  | v :: vs => (SR.wipe h vs).unset v
theorem rE.lc {fi : FI} {g : FG} {tt : FT} {te : FE} {vs : List Nat} {σ : L2.St} {H : Hp} {Q : VK} (h : rE K (fLc fi g tt te vs) σ H Q) : tLc (rI K fi) (rG K vs g) (rT K tt) (rE K te) vs σ H Q := by
  obtain ⟨as, ρ, M, d, M', sr, mr, ev, k⟩ := h
  unfold fLc at ev
  obtain ⟨⟨⟨ds, gd⟩, M1⟩, e1, ev⟩ := Option.bind_eq_some_iff.mp ev
  obtain ⟨⟨ys, M2⟩, e2, ev⟩ := Option.bind_eq_some_iff.mp ev
  dsimp only at e2 ev
  split at ev
  · rename_i hlim
    cases ev
    refine ⟨as, ρ, M, (ds, gd), M1, sr, mr, e1, fun J as1 H1 g1 m1 it => ?_⟩
    intro L hL
    have hgL : Gr as1 H1 as1 (upd H1 L (.lst [])) := Gr.new hL
    have hnL : L ∉ as1 := fun z => by
      obtain ⟨o, e, _⟩ := m1.there z
      rw [hL] at e; cases e
    refine ⟨fun i m H => i ≤ ds.length ∧ m = ds.length - i ∧ ∃ as M acc got rest, Gr as1 H1 as H ∧ L ∉ as ∧ H L = some (.lst acc) ∧ acc.length ≤ i ∧ VRs K as H acc got ∧ MR K as H M ∧ mapG gd (itemG g tt te (wipeD ρ vs)) (ds.drop i) M = some (rest, M2) ∧ ys = got ++ rest,
      ⟨ds.length, Nat.zero_le _, rfl, as1, M1, [], [], ys, hgL, hnL, upd_same, by simp, .nil, m1.new hL, by simpa using e2, rfl⟩, ?_⟩
    rintro i m H ⟨hi, rfl, as2, M3, acc, got, rest, g2, nL, hacc, hlen, racc, m2, e3, hys⟩
    by_cases hl : i < ds.length
    · rw [List.drop_eq_getElem_cons hl] at e3
      unfold mapG at e3
      split at e3
      · rename_i hgd
        have hd : ds[i]? = some ds[i] := List.getElem?_eq_getElem hl
        obtain ⟨hgo, hy⟩ := it.go as2 H M3 i _ g2 m2 hgd hd
        obtain ⟨⟨od, M4⟩, e4, e3⟩ := Option.bind_eq_some_iff.mp e3
        obtain ⟨⟨rs, M5⟩, e5, e3⟩ := Option.bind_eq_some_iff.mp e3
        dsimp only at e3 e5
        have hM : M5 = M2 := congrArg Prod.snd (Option.some.inj e3)
        have hR : od.toList ++ rs = rest := congrArg Prod.fst (Option.some.inj e3)
        subst hR
        obtain rfl : M2 = M5 := hM.symm
        unfold itemG at e4
        obtain ⟨ρ1, e6, e4⟩ := Option.bind_eq_some_iff.mp e4
        obtain ⟨⟨b, M6⟩, e7, e4⟩ := Option.bind_eq_some_iff.mp e4
        refine .inr ⟨hgo, fun H => ∃ as M acc got rest, Gr as1 H1 as H ∧ L ∉ as ∧ H L = some (.lst acc) ∧ acc.length ≤ i + 1 ∧ VRs K as H acc got ∧ MR K as H M ∧ mapG gd (itemG g tt te (wipeD ρ vs)) (ds.drop (i + 1)) M = some (rest, M2) ∧ ys = got ++ rest, fun H' hN => ⟨ds.length - (i + 1), by omega, hl, rfl, hN⟩, fun x H3 hx => ?_⟩
        obtain ⟨g3, m3, r3⟩ := hy x H3 hx
        refine ⟨as2, wipeD ρ vs, _, ρ1, ((sr.gr g1).wipe vs).gr (g2.trans g3), r3, e6, fun σ4 s4 w4 => ⟨?_, as2, ρ1, M3, b, M6, s4, m3, e7, fun as7 H7 g7 m7 => ?_⟩⟩
        · rw [w4]
          have : ∀ vs : List Nat, ∀ σ : L2.St, wipe (wipe σ vs) vs = wipe σ vs := fun vs => by
            intro σ
            have key : ∀ us ts : List Nat, (∀ u ∈ us, u ∈ ts) → wipe (wipe σ us) ts = wipe σ ts := fun us => by
              induction us with
              | nil => intro ts _; rfl
              | cons u us ih =>
                intro ts h
                show wipe ((wipe σ us).set u none) ts = _
                rw [wipe_set (h u List.mem_cons_self)]
                exact ih ts fun v hv => h v (List.mem_cons_of_mem _ hv)
            exact key vs vs fun u h => h
          exact this vs σ
        · have nL7 : L ∉ as7 := fun z => by
            by_cases z2 : L ∈ as2
            · exact nL z2
            · have := (g3.trans g7).fresh L z z2
              rw [hacc] at this; cases this
          have hacc7 : H7 L = some (.lst acc) := (g3.trans g7).keep L _ hacc nL
          cases b with
          | true =>
            rw [if_pos rfl] at e4
            refine ite_y rfl ?_
            obtain ⟨⟨y, M8⟩, e8, e4⟩ := Option.map_eq_some_iff.mp e4
            cases e4
            refine ⟨as7, ρ1, M6, y, M8, s4.gr g7, m7, e8, fun v as9 H9 g9 m9 r9 => ?_⟩
            have nL9 : L ∉ as9 := fun z => by
              by_cases z2 : L ∈ as7
              · exact nL7 z2
              · have := g9.fresh L z z2
                rw [hacc7] at this; cases this
            have hacc9 : H9 L = some (.lst acc) := g9.keep L _ hacc7 nL7
            refine ⟨acc, hacc9, Nat.lt_of_lt_of_le (Nat.lt_of_le_of_lt hlen hl) (lim_ok hlim), as9, M8, acc ++ [v], got ++ [y], _, ((((g2.trans g3).trans g7).trans g9).over hL), nL9, upd_same, by simp; omega, ?_, m9.side hacc9 nL9, e5, by simpa using hys⟩
            exact ((((racc.gr g3).gr g7).gr g9).append (.cons r9 .nil)).gv (Gv.side hacc9)
          | false =>
            rw [if_neg (fun z => nomatch z)] at e4
            refine ite_n (fun z => nomatch z) ?_
            cases e4
            exact ⟨as7, M6, acc, got, _, (g2.trans g3).trans g7, nL7, hacc7, by omega, (racc.gr g3).gr g7, m7, by simpa using e5, by simpa using hys⟩
      · cases e3
    · have hi' : i = ds.length := by omega
      subst hi'
      rw [List.drop_length] at e3
      unfold mapG at e3
      split at e3
      · rename_i hgd
        cases e3
        refine .inl ⟨it.stop as2 H _ g2 m2 hgd, ?_⟩
        rw [List.append_nil] at hys
        subst hys
        exact k _ (as2 ++ [L]) H ((g1.trans g2).take (g1.free hL) nL) (m2.take hacc nL racc) (.rf (by rw [← m2.len]; simp))
      · cases e3
  · cases ev
theorem sts_nil : X.K = K.K → X.calm = true → PTs X [] (rT K tYesD) := fun _ _ => pts_mono pts_nil fun σ H Q ⟨as, ρ, M, b, M', sr, mr, ev, k⟩ => by
  cases ev
  exact k as H Gr.refl mr
theorem sts_one {c : Expr} {t : FT} (h : ST K X c t) : X.K = K.K → X.calm = true → PTs X [c] (rT K t) := fun hK hc => pts_one (h hK hc)
abbrev Blk (X : Cx) (scope : Scope) (P : Cx → Prop) : Prop := ∀ (s : Shared) (H : Hp) (C : Addr) (cl : List (Str × Addr)) (fp : List Addr), P (X.blk s H scope (compEnvC scope cl C X.env) fp)
theorem se_lc {elt iter : Expr} {ifs : List Expr} {scope : Scope} {own : List (Str × Nat)} {fi : FI} {g : FG} {tt : FT} {te : FE} (hN : X.N.Nodup) (hi : SI K X tg iter fi) (ok : BlkOk X.N X.env.scope scope own)
    (hg : Blk X scope fun Y => SG K Y (own.map (·.2)) tg g) (ht : Blk X scope fun Y => Y.K = K.K → Y.calm = true → PTs Y ifs (rT K tt)) (he : Blk X scope fun Y => SE K Y elt te) (hs : ∀ x, foldedSetIterable iter X.env x = pure x := by intro _; rfl) :
    SE K X (.ListComp elt [⟨tg, iter, ifs, 0⟩] scope pos) (fLc fi g tt te (own.map (·.2))) := SE.imp (fun hK hc => pe_lc hc hN (hi hK hc) ok (fun s H C cl fp => hg s H C cl fp hK hc) (fun s H C cl fp => ht s H C cl fp hK hc) (fun s H C cl fp => he s H C cl fp hK hc) hs) fun _ _ _ => rE.lc
theorem ss_setLc {i : Nat} {y : Str} {py spos : Pos} {elt iter : Expr} {ifs : List Expr} {scope : Scope} {own : List (Str × Nat)} {fi : FI} {g : FG} {tt : FT} {te : FE} (hN : X.N.Nodup) (hy : X.N[i]? = some y) (hyl : X.env.scope.names.lookup y = some .local)
    (hsw : swapsWith (.ListComp elt [⟨tg, iter, ifs, 0⟩] scope pos) (some (.Name y py)) spos.line X.env = pure true) (hi : SI K X tg iter fi) (ok : BlkOk X.N X.env.scope scope own)
    (hg : Blk X scope fun Y => SG K Y (own.map (·.2)) tg g) (ht : Blk X scope fun Y => Y.K = K.K → Y.calm = true → PTs Y ifs (rT K tt)) (he : Blk X scope fun Y => SE K Y elt te) (hs : ∀ x, foldedSetIterable iter X.env x = pure x := by intro _; rfl) :
    SS K X (.Assign [.Name y py] (.ListComp elt [⟨tg, iter, ifs, 0⟩] scope pos) spos) (sAsg (fLc fi g tt te (own.map (·.2))) (gN i)) :=
  fun hK hc => ps_mono (ps_setLc hc hN hy hyl hsw (hi hK hc) ok (fun s H C cl fp => hg s H C cl fp hK hc) (fun s H C cl fp => ht s H C cl fp hK hc) (fun s H C cl fp => he s H C cl fp hK hc) hs) fun D σ H ⟨as, ρ, M, fl, M', sr, mr, ev, k⟩ => by
    unfold sAsg at ev
    obtain ⟨⟨d, M1⟩, e1, ev⟩ := Option.bind_eq_some_iff.mp ev
    cases ev
    exact rE.lc ⟨as, ρ, M, d, _, sr, mr, e1, fun v as1 H1 g1 m1 r1 => k _ as1 H1 g1 m1 ((sr.gr g1).set r1 i)⟩
/-! the walked things -/
def itemsOf : D → Mem → Option Src
  | .tup ds, _ => some (ds, fun _ => True)
  | .rol ds, _ => some (ds, fun _ => True)
  | .rf i, M => match M[i]? with
    | some (.lst ds) => some (ds, fun M' => M'[i]? = some (.lst ds))
    | _ => none
  | .str z, _ => some (z.cps.toList.map fun c => .str ⟨#[c]⟩, fun _ => True)
  | _, _ => none
def iE (fe : FE) : FI := fun ρ M => (fe ρ M).bind fun p => (itemsOf p.1 p.2).map fun s => (s, p.2)
theorem itr_tup {as : List Addr} {H : Hp} {a : Addr} {xs : List V} {ds : List D} (h : TupS K H a xs) (r : VRs K as H xs ds) : ItR K as H (Itt K.K a) (ds, fun _ => True) where
  stop := fun as' H' M g _ _ => ⟨xs, (h.gv g.gv).sq, by rw [r.len]; exact Nat.le_refl _⟩
  go := fun as' H' M i d g m _ e => by
    have h' := (h.gv g.gv).sq
    obtain ⟨v, e1, rv⟩ := (r.gr g).get e
    refine ⟨⟨xs, v, h', e1⟩, fun x H2 y => ?_⟩
    obtain ⟨rfl, y⟩ := y
    have := y xs h'
    rw [e1] at this
    cases this
    exact ⟨Gr.refl, m, rv⟩
theorem itr_rol {as : List Addr} {H : Hp} {a : Addr} {xs : List V} {ds : List D} (h : RolS K H a xs) (r : VRs K as H xs ds) : ItR K as H (Itl K.K a) (ds, fun _ => True) where
  stop := fun as' H' M g _ _ => ⟨xs, (h.gv g.gv).sq, by rw [r.len]; exact Nat.le_refl _⟩
  go := fun as' H' M i d g m _ e => by
    have h' := (h.gv g.gv).sq
    obtain ⟨v, e1, rv⟩ := (r.gr g).get e
    refine ⟨⟨xs, v, h', e1⟩, fun x H2 y => ?_⟩
    obtain ⟨rfl, y⟩ := y
    have := y xs h'
    rw [e1] at this
    cases this
    exact ⟨Gr.refl, m, rv⟩
theorem itr_lst {as : List Addr} {H : Hp} {a : Addr} {j : Nat} {ds : List D} (h : as[j]? = some a) : ItR K as H (Itl K.K a) (ds, fun M => M[j]? = some (.lst ds)) where
  stop := fun as' H' M g m hg => by
    obtain ⟨xs, q, r⟩ := m.lst (g.gv.get h) hg
    exact ⟨xs, SqL.of q, by rw [r.len]; exact Nat.le_refl _⟩
  go := fun as' H' M i d g m hg e => by
    obtain ⟨xs, q, r⟩ := m.lst (g.gv.get h) hg
    obtain ⟨v, e1, rv⟩ := r.get e
    refine ⟨⟨xs, v, SqL.of q, e1⟩, fun x H2 y => ?_⟩
    obtain ⟨rfl, y⟩ := y
    have := y xs (SqL.of q)
    rw [e1] at this
    cases this
    exact ⟨Gr.refl, m, rv⟩
theorem si_e {fe : FE} (he : SE K X e fe) : SI K X tg e (iE fe) := fun hK hc => by
  obtain ⟨_, Γ⟩ := K
  cases hK
  refine ⟨fun pins s σ H R I h => ?_⟩
  obtain ⟨as, ρ, M, sc, M', sr, mr, ev, k⟩ := h
  unfold iE at ev
  obtain ⟨⟨d, M1⟩, e1, ev⟩ := Option.bind_eq_some_iff.mp ev
  obtain ⟨sc', e2, ev⟩ := Option.map_eq_some_iff.mp ev
  cases ev
  cases d with
  | tup ds =>
    cases e2
    refine (pi_tup (tg := tg) (he rfl hc)).run pins s σ H R I ⟨as, ρ, M, _, _, sr, mr, e1, fun v as1 H1 g1 m1 r1 => ?_⟩
    cases r1 with
    | tup h hs => exact ⟨_, rfl, ⟨_, h.sq⟩, k _ as1 H1 g1 m1 (itr_tup h hs)⟩
  | rol ds =>
    cases e2
    refine (pi_list (tg := tg) (he rfl hc)).run pins s σ H R I ⟨as, ρ, M, _, _, sr, mr, e1, fun v as1 H1 g1 m1 r1 => ?_⟩
    cases r1 with
    | rol h hs => exact ⟨_, rfl, ⟨_, h.sq⟩, k _ as1 H1 g1 m1 (itr_rol h hs)⟩
  | rf j =>
    simp only [itemsOf] at e2
    split at e2
    · rename_i ds hd
      cases e2
      refine (pi_list (tg := tg) (he rfl hc)).run pins s σ H R I ⟨as, ρ, M, _, _, sr, mr, e1, fun v as1 H1 g1 m1 r1 => ?_⟩
      cases r1 with
      | rf h =>
        obtain ⟨xs, q, _⟩ := m1.lst h hd
        exact ⟨_, rfl, ⟨_, SqL.of q⟩, k _ as1 H1 g1 m1 (itr_lst h)⟩
    · cases e2
  | str z =>
    cases e2
    refine (pi_str (tg := tg) (he rfl hc)).run pins s σ H R I ⟨as, ρ, M, _, _, sr, mr, e1, fun v as1 H1 g1 m1 r1 => ?_⟩
    cases r1
    refine ⟨z, rfl, k _ as1 H1 g1 m1 ⟨fun as' H' M _ _ _ => by simp [Its], fun as' H' M i d g m _ e => ?_⟩⟩
    simp only [List.getElem?_map, Option.map_eq_some_iff] at e
    obtain ⟨c, e, rfl⟩ := e
    have hi : i < z.cps.size := by
      have := (List.getElem?_eq_some_iff.mp e).1
      simpa using this
    refine ⟨hi, fun x H2 y => ?_⟩
    obtain ⟨rfl, c', hc', rfl⟩ := y
    rw [Array.getElem?_toList] at e
    rw [e] at hc'
    cases hc'
    exact ⟨Gr.refl, m, .str _⟩
  | _ => cases e2
/-- range(n), range(a, b) -/
def upto (lo : Int) (n : Nat) : List D := (List.range n).map fun i : Nat => .int (lo + i)
def iR1 (fa : FE) : FI := fun ρ M => (fa ρ M).bind fun p => match p.1 with
  | .int j => if j ≤ 100000 ∧ -100000 ≤ j then some ((upto 0 j.toNat, fun _ => True), p.2) else none
  | _ => none
def iR2 (fa fb : FE) : FI := fun ρ M => (fa ρ M).bind fun p => (fb ρ p.2).bind fun q => match p.1, q.1 with
  | .int i, .int j => if j ≤ 100000 ∧ -100000 ≤ i ∧ -100000 ≤ j ∧ i ≤ 100000 then some ((upto i (j - i).toNat, fun _ => True), q.2) else none
  | _, _ => none
theorem itr_rng {as : List Addr} {H : Hp} {lo : Int} {n : Nat} : ItR K as H (Itr lo n) (upto lo n, fun _ => True) where
  stop := fun as' H' M g _ _ => by simp [Itr, upto]
  go := fun as' H' M i d g m _ e => by
    simp only [upto, List.getElem?_map, Option.map_eq_some_iff] at e
    obtain ⟨j, e, rfl⟩ := e
    have hj : i < n ∧ j = i := by
      have := List.getElem?_eq_some_iff.mp e
      obtain ⟨h1, h2⟩ := this
      simp at h1 h2
      exact ⟨h1, h2.symm⟩
    obtain ⟨hi, rfl⟩ := hj
    refine ⟨hi, fun x H2 y => ?_⟩
    obtain ⟨rfl, rfl⟩ := y
    exact ⟨Gr.refl, m, .int _⟩
theorem si_range1 {a : Expr} {fa : FE} {p : Pos} (hg : Gl X "range") (hm : X.mg "range" = none) (ha : SE K X a fa) (hs : starEach [a] X.env = [(false, eval a X.env)] := by rfl) (hs' : starEach [a] X.env = (false, eval a X.env) :: starEach [] X.env := by rfl) : SI K X tg (.Call (.Name "range" p) [a] [] pos) (iR1 fa) :=
  fun hK hc => pi_mono (pi_range1 hg hm (pa_cons (ha hK hc) pa_nil hs') hs) fun σ H R ⟨as, ρ, M, sc, M', sr, mr, ev, k⟩ => by
    unfold iR1 at ev
    obtain ⟨⟨d, M1⟩, e1, ev⟩ := Option.bind_eq_some_iff.mp ev
    refine ⟨as, ρ, M, d, M1, sr, mr, e1, fun v as1 H1 g1 m1 r1 => ?_⟩
    cases r1 with
    | int j =>
      dsimp only at ev
      split at ev
      · rename_i hl
        cases ev
        exact ⟨_, rfl, by omega, by omega, k _ as1 H1 g1 m1 itr_rng⟩
      · cases ev
    | _ => cases ev
theorem si_range2 {a b : Expr} {fa fb : FE} {p : Pos} (hg : Gl X "range") (hm : X.mg "range" = none) (ha : SE K X a fa) (hb : SE K X b fb) (hs : starEach [a, b] X.env = [(false, eval a X.env), (false, eval b X.env)] := by rfl) (hs2 : starEach [b] X.env = [(false, eval b X.env)] := by rfl)
    (hs3 : starEach [a, b] X.env = (false, eval a X.env) :: starEach [b] X.env := by rfl) (hs4 : starEach [b] X.env = (false, eval b X.env) :: starEach [] X.env := by rfl) : SI K X tg (.Call (.Name "range" p) [a, b] [] pos) (iR2 fa fb) :=
  fun hK hc => pi_mono (pi_range2 hg hm (pa_cons (ha hK hc) (pa_cons (hb hK hc) pa_nil hs4) hs3) hs hs2) fun σ H R ⟨as, ρ, M, sc, M', sr, mr, ev, k⟩ => by
    unfold iR2 at ev
    obtain ⟨⟨d, M1⟩, e1, ev⟩ := Option.bind_eq_some_iff.mp ev
    obtain ⟨⟨e, M2⟩, e2, ev⟩ := Option.bind_eq_some_iff.mp ev
    refine ⟨as, ρ, M, d, M1, sr, mr, e1, fun v as1 H1 g1 m1 r1 => ⟨as1, ρ, M1, e, M2, sr.gr g1, m1, e2, fun u as2 H2 g2 m2 r2 => ?_⟩⟩
    cases r1 with
    | int i =>
      cases r2 with
      | int j =>
        dsimp only at ev
        split at ev
        · rename_i hl
          cases ev
          exact ⟨_, _, rfl, ⟨by omega, by omega, by omega, by omega⟩, k _ as2 H2 (g1.trans g2) m2 itr_rng⟩
        · cases ev
      | _ => cases ev
    | _ => cases ev
/-- pairs of two walks -/
def pairs : List D → List D → List D
  | a :: as, b :: bs => .tup [a, b] :: pairs as bs
  | _, _ => []
theorem pairs_len : ∀ (as bs : List D), (pairs as bs).length = min as.length bs.length
  | [], _ => by simp [pairs]
  | _ :: _, [] => by simp [pairs]
  | _ :: as, _ :: bs => by simp only [pairs, List.length_cons, pairs_len as bs]; omega
theorem pairs_get : ∀ {as bs : List D} {i : Nat} {d : D}, (pairs as bs)[i]? = some d → ∃ a b, as[i]? = some a ∧ bs[i]? = some b ∧ d = .tup [a, b]
  | [], _, _, _, e => by simp [pairs] at e
  | _ :: _, [], _, _, e => by simp [pairs] at e
  | a :: _, b :: _, 0, _, e => by
    simp [pairs] at e
    exact ⟨a, b, rfl, rfl, e.symm⟩
  | _ :: as, _ :: bs, i + 1, _, e => by
    simp only [pairs, List.getElem?_cons_succ] at e ⊢
    exact pairs_get e
def numbered (ds : List D) : List D := pairs (upto 0 ds.length) ds
/-- lists and tuples -/
def zipOf : D → D → Mem → Option Src
  | .tup ds, .tup es, _ => some (pairs ds es, fun _ => True)
  | .rf i, .rf j, M => match M[i]?, M[j]? with
    | some (.lst ds), some (.lst es) => some (pairs ds es, fun M' => M'[i]? = some (.lst ds) ∧ M'[j]? = some (.lst es))
    | _, _ => none
  | .tup ds, .rf j, M => match M[j]? with
    | some (.lst es) => some (pairs ds es, fun M' => M'[j]? = some (.lst es))
    | _ => none
  | .rf i, .tup es, M => match M[i]? with
    | some (.lst ds) => some (pairs ds es, fun M' => M'[i]? = some (.lst ds))
    | _ => none
  | _, _, _ => none
def iZ (fa fb : FE) : FI := fun ρ M => (fa ρ M).bind fun p => (fb ρ p.2).bind fun q => (zipOf p.1 q.1 q.2).map fun s => (s, q.2)
theorem tup2_new {as : List Addr} {H : Hp} {T : Addr} {x y : V} {a b : D} (hT : H T = none) (h1 : VR K as H x a) (h2 : VR K as H y b) : VR K as (upd H T (.tup [x, y])) (.ref T) (.tup [a, b]) :=
  have g : Gr as H as (upd H T (.tup [x, y])) := Gr.new hT
  .tup (.inl upd_same) (.cons (h1.gr g) (.cons (h2.gr g) .nil))
/-- what a walk over a list or a tuple has at hand -/
def SrcR (K : Kx) (as : List Addr) (H : Hp) (t : Bool) (a : Addr) (ds : List D) (gd : Mem → Prop) : Prop := ∀ as' H' M, Gr as H as' H' → MR K as' H' M → gd M → ∃ xs, Sq2 K.K H' t a xs ∧ VRs K as' H' xs ds
theorem srcT {as : List Addr} {H : Hp} {a : Addr} {xs : List V} {ds : List D} (h : TupS K H a xs) (r : VRs K as H xs ds) : SrcR K as H true a ds fun _ => True := fun _ _ _ g _ _ => ⟨xs, (h.gv g.gv).sq, r.gr g⟩
theorem srcL {as : List Addr} {H : Hp} {a : Addr} {j : Nat} {ds : List D} (h : as[j]? = some a) : SrcR K as H false a ds fun M' => M'[j]? = some (.lst ds) := fun _ _ _ g m hg => by
  obtain ⟨xs, p, r⟩ := m.lst (g.gv.get h) hg
  exact ⟨xs, SqL.of p, r⟩
theorem SrcR.gr {as as' : List Addr} {H H' : Hp} {t : Bool} {a : Addr} {ds : List D} {gd : Mem → Prop} (g : Gr as H as' H') (h : SrcR K as H t a ds gd) : SrcR K as' H' t a ds gd := fun as2 H2 M g2 => h as2 H2 M (g.trans g2)
theorem itr_zip2 {as : List Addr} {H : Hp} {t1 t2 : Bool} {a b : Addr} {ds es : List D} {g1 g2 gd : Mem → Prop} (h1 : SrcR K as H t1 a ds g1) (h2 : SrcR K as H t2 b es g2) (hg : ∀ M, gd M → g1 M ∧ g2 M) : ItR K as H (ItzN K.K [(t1, a), (t2, b)]) (pairs ds es, gd) where
  stop := fun as' H' M g m q => by
    obtain ⟨xs, s1, r1⟩ := h1 as' H' M g m (hg M q).1
    obtain ⟨ys, s2, r2⟩ := h2 as' H' M g m (hg M q).2
    refine ⟨fun c hc => ?_, ?_⟩
    · simp only [List.mem_cons, List.not_mem_nil, or_false] at hc
      rcases hc with rfl | rfl
      · exact ⟨xs, s1⟩
      · exact ⟨ys, s2⟩
    · have e1 := r1.len
      have e2 := r2.len
      by_cases h : ds.length ≤ es.length
      · exact ⟨(t1, a), by simp, xs, s1, by rw [pairs_len]; omega⟩
      · exact ⟨(t2, b), by simp, ys, s2, by rw [pairs_len]; omega⟩
  go := fun as' H' M i d g m q e => by
    obtain ⟨xs, s1, r1⟩ := h1 as' H' M g m (hg M q).1
    obtain ⟨ys, s2, r2⟩ := h2 as' H' M g m (hg M q).2
    obtain ⟨p, q', e1, e2, rfl⟩ := pairs_get e
    obtain ⟨v, f1, v1⟩ := r1.get e1
    obtain ⟨u, f2, v2⟩ := r2.get e2
    refine ⟨fun c hc => ?_, fun x H2 y => ?_⟩
    · simp only [List.mem_cons, List.not_mem_nil, or_false] at hc
      rcases hc with rfl | rfl
      · exact ⟨xs, v, s1, f1⟩
      · exact ⟨ys, u, s2, f2⟩
    · obtain ⟨T, vs, rfl, hT, rfl, hl, k⟩ := y
      match vs, hl with
      | [x1, y1], _ =>
        have := k 0 _ x1 rfl rfl xs s1
        rw [f1] at this; cases this
        have := k 1 _ y1 rfl rfl ys s2
        rw [f2] at this; cases this
        exact ⟨Gr.new hT, m.new hT, tup2_new hT v1 v2⟩
theorem si_zip {a b : Expr} {fa fb : FE} {p tpos : Pos} {elts : List Expr} {kk : Nat} (hg : Gl X "zip") (hm : X.mg "zip" = none) (ha : SE K X a fa) (hb : SE K X b fb)
    (hs3 : starEach [a, b] X.env = (false, eval a X.env) :: starEach [b] X.env := by rfl) (hs4 : starEach [b] X.env = (false, eval b X.env) :: starEach [] X.env := by rfl) (hpl : (backTo pos (starEach [b] X.env)).any (·.1) = false := by rfl) :
    SI K X (.Tuple elts kk tpos) (.Call (.Name "zip" p) [a, b] [] pos) (iZ fa fb) :=
  fun hK hc => by
    obtain ⟨_, Γ⟩ := K
    cases hK
    refine pi_mono (pi_zipN hg hm (pa_cons (ha rfl hc) (pa_cons (hb rfl hc) pa_nil hs4) hs3) hs3 hpl) fun σ H R ⟨as, ρ, M, sc, M', sr, mr, ev, k⟩ => ?_
    unfold iZ at ev
    obtain ⟨⟨d, M1⟩, e1, ev⟩ := Option.bind_eq_some_iff.mp ev
    obtain ⟨⟨e, M2⟩, e2, ev⟩ := Option.bind_eq_some_iff.mp ev
    obtain ⟨sc', e3, ev⟩ := Option.map_eq_some_iff.mp ev
    cases ev
    refine ⟨as, ρ, M, d, M1, sr, mr, e1, fun v as1 H1 g1 m1 r1 => ⟨as1, ρ, M1, e, _, sr.gr g1, m1, e2, fun u as2 H2 g2 m2 r2 => ?_⟩⟩
    have fin : ∀ (t1 t2 : Bool) (a b : Addr) (ds es : List D) (gd1 gd2 gd : Mem → Prop), SrcR ⟨X.K, Γ⟩ as2 H2 t1 a ds gd1 → SrcR ⟨X.K, Γ⟩ as2 H2 t2 b es gd2 → (∀ M, gd M → gd1 M ∧ gd2 M) → gd M2 → sc = (pairs ds es, gd) → v = .ref a → u = .ref b →
        ∃ cs : List (Bool × Addr), [v, u] = cs.map (fun c => V.ref c.2) ∧ (cs.length = 2 ∨ cs.length = 3 ∨ cs.length = 4) ∧ (∀ c ∈ cs, ∃ xs, Sq2 X.K H2 c.1 c.2 xs) ∧ R (ItzN X.K cs) H2 := fun t1 t2 a b ds es gd1 gd2 gd h1 h2 hg hM es' ea eb => by
      subst es' ea eb
      refine ⟨[(t1, a), (t2, b)], rfl, .inl rfl, fun c hc => ?_, k _ as2 H2 (g1.trans g2) m2 (itr_zip2 h1 h2 hg)⟩
      simp only [List.mem_cons, List.not_mem_nil, or_false] at hc
      rcases hc with rfl | rfl
      · obtain ⟨xs, s, _⟩ := h1 as2 H2 M2 Gr.refl m2 (hg M2 hM).1
        exact ⟨xs, s⟩
      · obtain ⟨xs, s, _⟩ := h2 as2 H2 M2 Gr.refl m2 (hg M2 hM).2
        exact ⟨xs, s⟩
    cases r1 with
    | tup h1 hs1 =>
      cases r2 with
      | tup h2 hs2 =>
        cases e3
        exact fin true true _ _ _ _ _ _ _ ((srcT h1 hs1).gr g2) (srcT h2 hs2) (fun _ _ => ⟨trivial, trivial⟩) trivial rfl rfl rfl
      | rf h2 =>
        simp only [zipOf] at e3
        split at e3
        · rename_i es d2
          cases e3
          exact fin true false _ _ _ _ _ _ _ ((srcT h1 hs1).gr g2) (srcL h2) (fun _ q => ⟨trivial, q⟩) d2 rfl rfl rfl
        · cases e3
      | _ => cases e3
    | rf h1 =>
      cases r2 with
      | rf h2 =>
        simp only [zipOf] at e3
        split at e3
        · rename_i ds es d1 d2
          cases e3
          exact fin false false _ _ _ _ _ _ _ (srcL (g2.gv.get h1)) (srcL h2) (fun _ q => q) ⟨d1, d2⟩ rfl rfl rfl
        · cases e3
      | tup h2 hs2 =>
        simp only [zipOf] at e3
        split at e3
        · rename_i ds d1
          cases e3
          exact fin false true _ _ _ _ _ _ _ (srcL (g2.gv.get h1)) (srcT h2 hs2) (fun _ q => ⟨q, trivial⟩) d1 rfl rfl rfl
        · cases e3
      | _ => cases e3
    | _ => cases e3
/-- enumerate of a list -/
def iEn (fa : FE) : FI := fun ρ M => (fa ρ M).bind fun p => match p.1 with
  | .rf j => match p.2[j]? with
    | some (.lst ds) => some ((numbered ds, fun M' => M'[j]? = some (.lst ds)), p.2)
    | _ => none
  | .rol ds => some ((numbered ds, fun _ => True), p.2)
  | .tup ds => some ((numbered ds, fun _ => True), p.2)
  | _ => none
theorem numbered_get {ds : List D} {i : Nat} {d : D} (e : (numbered ds)[i]? = some d) : ∃ b, ds[i]? = some b ∧ d = .tup [.int (i : Nat), b] := by
  obtain ⟨a, b, e1, e2, rfl⟩ := pairs_get e
  simp only [upto, List.getElem?_map, Option.map_eq_some_iff] at e1
  obtain ⟨j, e1, rfl⟩ := e1
  obtain ⟨h1, h2⟩ := List.getElem?_eq_some_iff.mp e1
  simp at h2
  subst h2
  exact ⟨b, e2, by simp⟩
theorem numbered_len (ds : List D) : (numbered ds).length = ds.length := by simp [numbered, pairs_len, upto]
theorem si_enum {a : Expr} {fa : FE} {p tpos : Pos} {elts : List Expr} {kk : Nat} (hg : Gl X "enumerate") (hm : X.mg "enumerate" = none) (ha : SE K X a fa) (hs : starEach [a] X.env = [(false, eval a X.env)] := by rfl) (hs' : starEach [a] X.env = (false, eval a X.env) :: starEach [] X.env := by rfl) :
    SI K X (.Tuple elts kk tpos) (.Call (.Name "enumerate" p) [a] [] pos) (iEn fa) :=
  fun hK hc => by
    obtain ⟨_, Γ⟩ := K
    cases hK
    refine pi_mono (pi_enumA hg hm (pa_cons (ha rfl hc) pa_nil hs') hs) fun σ H R ⟨as, ρ, M, sc, M', sr, mr, ev, k⟩ => ?_
    unfold iEn at ev
    obtain ⟨⟨d, M1⟩, e1, ev⟩ := Option.bind_eq_some_iff.mp ev
    refine ⟨as, ρ, M, d, M1, sr, mr, e1, fun v as1 H1 g1 m1 r1 => ?_⟩
    cases r1 with
    | @rf j a h1 =>
      dsimp only at ev
      split at ev
      · rename_i ds d1
        cases ev
        obtain ⟨xs, p1, _⟩ := m1.lst h1 d1
        refine ⟨a, xs, rfl, .inl ⟨SqL.of p1, k _ as1 H1 g1 m1 ⟨fun as' H' M g m hg => ?_, fun as' H' M i d g m hg e => ?_⟩⟩⟩
        · obtain ⟨xs, p1, r1⟩ := m.lst (g.gv.get h1) hg
          exact ⟨xs, SqL.of p1, by rw [numbered_len, r1.len]; exact Nat.le_refl _⟩
        · obtain ⟨xs, p1, r1⟩ := m.lst (g.gv.get h1) hg
          obtain ⟨b, e1, rfl⟩ := numbered_get e
          obtain ⟨v, f1, v1⟩ := r1.get e1
          refine ⟨⟨xs, v, SqL.of p1, f1⟩, fun x H2 y => ?_⟩
          obtain ⟨T, x1, rfl, hT, rfl, k1⟩ := y
          have := k1 xs (SqL.of p1)
          rw [f1] at this; cases this
          exact ⟨Gr.new hT, m.new hT, tup2_new hT (.int _) v1⟩
      · cases ev
    | @rol a xs ds h1 hs1 =>
      cases ev
      refine ⟨a, xs, rfl, .inl ⟨h1.sq, k _ as1 H1 g1 m1 ⟨fun as' H' M g m hg => ?_, fun as' H' M i d g m hg e => ?_⟩⟩⟩
      · exact ⟨xs, (h1.gv g.gv).sq, by rw [numbered_len, hs1.len]; exact Nat.le_refl _⟩
      · obtain ⟨b, e1, rfl⟩ := numbered_get e
        obtain ⟨v, f1, v1⟩ := (hs1.gr g).get e1
        have q1 := (h1.gv g.gv).sq
        refine ⟨⟨xs, v, q1, f1⟩, fun x H2 y => ?_⟩
        obtain ⟨T, x1, rfl, hT, rfl, k1⟩ := y
        have := k1 xs q1
        rw [f1] at this; cases this
        exact ⟨Gr.new hT, m.new hT, tup2_new hT (.int _) v1⟩
    | @tup a xs ds h1 hs1 =>
      cases ev
      refine ⟨a, xs, rfl, .inr ⟨h1.sq, k _ as1 H1 g1 m1 ⟨fun as' H' M g m hg => ?_, fun as' H' M i d g m hg e => ?_⟩⟩⟩
      · exact ⟨xs, (h1.gv g.gv).sq, by rw [numbered_len, hs1.len]⟩
      · obtain ⟨b, e1, rfl⟩ := numbered_get e
        obtain ⟨v, f1, v1⟩ := (hs1.gr g).get e1
        have q1 := (h1.gv g.gv).sq
        refine ⟨⟨xs, v, q1, f1⟩, fun x H2 y => ?_⟩
        obtain ⟨T, x1, rfl, hT, rfl, k1⟩ := y
        have := k1 xs q1
        rw [f1] at this; cases this
        exact ⟨Gr.new hT, m.new hT, tup2_new hT (.int _) v1⟩
    | _ => cases ev
end

/-! ### defs and calls -/
def spP (K : Kx) (n : Nat) (f : List D → Option D) : Sp := fun vs H Q _ => ∃ ds d, vs.length = n ∧ VRs K [] H vs ds ∧ f ds = some d ∧ ∀ v H', Same H H' → VR K [] H' v d → Q v H'
def spM (K : Kx) (n : Nat) (f : GL) : Sp := fun vs H Q _ => ∃ as M ds d M', vs.length = n ∧ MR K as H M ∧ VRs K as H vs ds ∧ f ds M = some (d, M') ∧ ∀ v as' H', Gr as H as' H' → MR K as' H' M' → VR K as' H' v d → Q v H'
/-- what a body of no effect is worth -/
def mkP (n N : Nat) (body : FS) : List D → Option D := fun ds => if D.los 0 ds = true ∧ ds.length = n then (body (startD N ds) []).bind fun p => match p.1 with
    | .rt d => if d.imm = true then some d else none
    | .nx _ => some .non
    | _ => none
  else none
/-- a body that works on the memory -/
def mkM (n N : Nat) (body : FS) : GL := fun ds M => if ds.length = n then (body (startD N ds) M).bind fun p => match p.1 with
    | .rt d => some (d, p.2)
    | .nx _ => some (.non, p.2)
    | _ => none
  else none
/-- what it leaves behind is forgotten where nothing speaks of it -/
def gc (n : Nat) (p : D × Mem) : D × Mem := if p.1.lo n = true ∧ (p.2.take n).all (Cell.lo n) = true then (p.1, p.2.take n) else p
def mkG (n N : Nat) (body : FS) : GL := fun ds M => (mkM n N body ds M).map (gc M.length)
theorem mkM_len {n N : Nat} {body : FS} {ds : List D} {M : Mem} {d : D × Mem} (h : mkM n N body ds M = some d) : ds.length = n := by
  unfold mkM at h
  split at h
  · assumption
  · cases h
theorem mkG_len {n N : Nat} {body : FS} {ds : List D} {M : Mem} {d : D × Mem} (h : mkG n N body ds M = some d) : ds.length = n := by
  unfold mkG at h
  obtain ⟨_, h, _⟩ := Option.map_eq_some_iff.mp h
  exact mkM_len h
theorem mkP_lo {n N : Nat} {body : FS} {ds : List D} {d : D} (h : mkP n N body ds = some d) : D.los 0 ds = true ∧ ds.length = n := by
  unfold mkP at h
  split at h
  · assumption
  · cases h
section
variable {P : Program} {w : World} {K : Kx} {mg : Str → Option Value} {base : Heap}
theorem okP {x qual : Str} {st : Stmt} {f : Addr} {fd : FuncData} {N ps : List Str} {k : Nat} {fb : FS} (F : Fun K.K x qual st f fd) (S : FnScope N ps (defScope st))
    (hb : ∀ (cdv : Value) (A : Around) (outer : List Env) (s : Shared) (H : Hp) (E : XK), Room k (A.deeper (envOfC qual (defScope st) s.heap.objs.size f cdv)) → SSs K (cxOf CX0 P w K.K mg base N qual (defScope st) f cdv A outer s H E).nox (defBody st) fb) :
    FnOk P w K.K mg base CX0 (k + 1) f fd ps (spP K ps.length (mkP ps.length N.length fb)) := by
  refine F.ok S (fun vs H Q E h => ?_) fun cdv A outer s H vs Q E hr h => ⟨rS K fb, hb cdv A outer s H E hr rfl rfl, ?_⟩
  · obtain ⟨_, _, h, _⟩ := h
    exact h
  obtain ⟨ds, d, hl, rs, e, k⟩ := h
  have hlo := mkP_lo e
  unfold mkP at e
  rw [if_pos hlo] at e
  obtain ⟨⟨fl, M1⟩, e1, e⟩ := Option.bind_eq_some_iff.mp e
  refine ⟨[], startD N.length ds, [], fl, M1, SR.start rs, MR.nil, e1, ?_⟩
  cases fl with
  | rt d' =>
    dsimp only at e
    split at e
    · rename_i hi
      cases e
      exact fun v as' H' g m r => k v H' g.same (by simpa using r.low (n := 0) hi)
    · cases e
  | nx ρ =>
    cases e
    exact fun σ' as' H' g m r => k .non H' g.same .non
  | bk ρ => cases e
  | ct ρ => cases e
theorem okM {x qual : Str} {st : Stmt} {f : Addr} {fd : FuncData} {N ps : List Str} {k : Nat} {fb : FS} (F : Fun K.K x qual st f fd) (S : FnScope N ps (defScope st))
    (hb : ∀ (cdv : Value) (A : Around) (outer : List Env) (s : Shared) (H : Hp) (E : XK), Room k (A.deeper (envOfC qual (defScope st) s.heap.objs.size f cdv)) → SSs K (cxOf CX0 P w K.K mg base N qual (defScope st) f cdv A outer s H E).nox (defBody st) fb) :
    FnOk P w K.K mg base CX0 (k + 1) f fd ps (spM K ps.length (mkM ps.length N.length fb)) := by
  refine F.ok S (fun vs H Q E h => ?_) fun cdv A outer s H vs Q E hr h => ⟨rS K fb, hb cdv A outer s H E hr rfl rfl, ?_⟩
  · obtain ⟨_, _, _, _, _, h, _⟩ := h
    exact h
  obtain ⟨as, M, ds, d, M', hl, mr, rs, e, k⟩ := h
  have hlen := mkM_len e
  unfold mkM at e
  rw [if_pos hlen] at e
  obtain ⟨⟨fl, M1⟩, e1, e⟩ := Option.bind_eq_some_iff.mp e
  refine ⟨as, startD N.length ds, M, fl, M1, SR.start rs, mr, e1, ?_⟩
  cases fl with
  | rt d' =>
    cases e
    exact fun v as' H' g m r => k v as' H' g m r
  | nx ρ =>
    cases e
    exact fun σ' as' H' g m r => k .non as' H' g m .non
  | bk ρ => cases e
  | ct ρ => cases e
theorem spM_gc {n : Nat} {f : GL} {vs : List V} {H : Hp} {Q : VK} {E : XK} (h : spM K n (fun ds M => (f ds M).map (gc M.length)) vs H Q E) : spM K n f vs H Q E := by
  obtain ⟨as, M, ds, d, M', hl, mr, rs, e, k⟩ := h
  obtain ⟨⟨d1, M1⟩, e1, e⟩ := Option.map_eq_some_iff.mp e
  refine ⟨as, M, ds, d1, M1, hl, mr, rs, e1, fun v as' H' g m r => ?_⟩
  unfold gc at e
  split at e
  · rename_i hc
    cases e
    obtain ⟨t, ht⟩ := g.app
    have hn : as'.take M.length = as := by rw [← mr.len, ht]; simp
    have m' := m.low hc.2
    have r' := r.low hc.1
    have g' := g.low
    rw [mr.len] at g'
    rw [hn] at m' r' g'
    exact k v as H' g' m' r'
  · cases e
    exact k v as' H' g m r
theorem okG {x qual : Str} {st : Stmt} {f : Addr} {fd : FuncData} {N ps : List Str} {k : Nat} {fb : FS} (F : Fun K.K x qual st f fd) (S : FnScope N ps (defScope st))
    (hb : ∀ (cdv : Value) (A : Around) (outer : List Env) (s : Shared) (H : Hp) (E : XK), Room k (A.deeper (envOfC qual (defScope st) s.heap.objs.size f cdv)) → SSs K (cxOf CX0 P w K.K mg base N qual (defScope st) f cdv A outer s H E).nox (defBody st) fb) :
    FnOk P w K.K mg base CX0 (k + 1) f fd ps (spM K ps.length (mkG ps.length N.length fb)) := (okM F S hb).imp fun _ _ _ _ h => spM_gc h
end
def fCP (f : List D → Option D) (fa : FA) : FE := fun ρ M => (fa ρ M).bind fun p => (f p.1).map fun d => (d, p.2)
section
variable {K : Kx} {X : Cx} {e o : Expr} {es : List Expr} {fa : FA} {fo fe fi : FE} {pos p apos cpos : Pos} {x : Str} {k n : Nat} {f : Addr} {fd : FuncData} {ps : List Str}
theorem rE.callP {m : List D → Option D} (hm : ∀ ds d, m ds = some d → D.los 0 ds = true ∧ ds.length = n) {σ : L2.St} {H : Hp} {Q : VK} (h : rE K (fCP m fa) σ H Q) : tCall (spP K n m) [] E0 (rA K fa) σ H Q := by
  obtain ⟨as, ρ, M, d, M', sr, mr, ev, k⟩ := h
  unfold fCP at ev
  obtain ⟨⟨ds, M1⟩, e1, ev⟩ := Option.bind_eq_some_iff.mp ev
  obtain ⟨d', e2, ev⟩ := Option.map_eq_some_iff.mp ev
  cases ev
  refine ⟨as, ρ, M, ds, _, sr, mr, e1, fun vs as1 H1 g1 m1 r1 => ⟨ds, d, ?_, ?_, e2, fun v H2 s2 r2 => ?_⟩⟩
  · rw [List.append_nil, r1.len]
    exact (hm _ _ e2).2
  · rw [List.append_nil]
    simpa using r1.low (n := 0) (hm _ _ e2).1
  · exact k v as1 H2 (g1.trans (Gr.of_same m1 s2)) (m1.same s2) r2.up
theorem rE.callM {m : GL} (hm : ∀ ds M d, m ds M = some d → ds.length = n) {σ : L2.St} {H : Hp} {Q : VK} (h : rE K (fL m fa) σ H Q) : tCall (spM K n m) [] E0 (rA K fa) σ H Q := by
  obtain ⟨as, ρ, M, d, M', sr, mr, ev, k⟩ := h
  unfold fL at ev
  obtain ⟨⟨ds, M1⟩, e1, ev⟩ := Option.bind_eq_some_iff.mp ev
  refine ⟨as, ρ, M, ds, _, sr, mr, e1, fun vs as1 H1 g1 m1 r1 => ⟨as1, M1, ds, d, M', ?_, m1, ?_, ev, fun v as2 H2 g2 m2 r2 => k v as2 H2 (g1.trans g2) m2 r2⟩⟩
  · rw [List.append_nil, r1.len]
    exact hm _ _ _ ev
  · rw [List.append_nil]
    exact r1
theorem se_callP {m : List D → Option D} (hm : ∀ ds d, m ds = some d → D.los 0 ds = true ∧ ds.length = n) (F : X.K = K.K → FnOk X.prog X.w X.K X.mg X.base CX0 k f fd ps (spP K n m)) (hr : Room k X.A) (hg : Gl X x) (hmg : X.mg x = some (.ref f)) (hk : X.K = K.K → PySem.W.keepIn X.K (.ref f) = true) (hb : X.K = K.K → Binds X.K fd ps [])
    (ha : SA K X (e :: es) fa) (hdb : (x == ("__debug__" : Str)) = false := by decide) (he : starEach (e :: es) X.env = (false, eval e X.env) :: starEach es X.env := by rfl) (hpl : (backTo pos (starEach es X.env)).any (·.1) = false := by rfl) :
    SE K X (.Call (.Name x p) (e :: es) [] pos) (fCP m fa) := SE.imp (fun hK hc => pe_call (F hK) hr hg hmg (hk hK) (hb hK) .nil pass0 (ha hK hc) hdb he hpl) fun _ _ _ => rE.callP hm
theorem se_callM {m : GL} (hm : ∀ ds M d, m ds M = some d → ds.length = n) (F : X.K = K.K → FnOk X.prog X.w X.K X.mg X.base CX0 k f fd ps (spM K n m)) (hr : Room k X.A) (hg : Gl X x) (hmg : X.mg x = some (.ref f)) (hk : X.K = K.K → PySem.W.keepIn X.K (.ref f) = true) (hb : X.K = K.K → Binds X.K fd ps [])
    (ha : SA K X (e :: es) fa) (hdb : (x == ("__debug__" : Str)) = false := by decide) (he : starEach (e :: es) X.env = (false, eval e X.env) :: starEach es X.env := by rfl) (hpl : (backTo pos (starEach es X.env)).any (·.1) = false := by rfl) :
    SE K X (.Call (.Name x p) (e :: es) [] pos) (fL m fa) := SE.imp (fun hK hc => pe_call (F hK) hr hg hmg (hk hK) (hb hK) .nil pass0 (ha hK hc) hdb he hpl) fun _ _ _ => rE.callM hm
/-! built-ins -/
theorem rE.list {g : GL} {σ : L2.St} {H : Hp} {Q : VK} (h : rE K (fL g fa) σ H Q) : tCB (rL K g) (rA K fa) σ H Q := by
  obtain ⟨as, ρ, M, d, M', sr, mr, ev, k⟩ := h
  unfold fL at ev
  obtain ⟨⟨ds, M1⟩, e1, ev⟩ := Option.bind_eq_some_iff.mp ev
  exact ⟨as, ρ, M, ds, _, sr, mr, e1, fun vs as1 H1 g1 m1 r1 => ⟨as1, M1, ds, d, M', m1, r1, ev, fun v as2 H2 g2 m2 r2 => k v as2 H2 (g1.trans g2) m2 r2⟩⟩
theorem se_callB {id : String} {g : GL} (hc : X.K = K.K → X.calm = true → CallR X (.builtin id) (rL K g)) (hg : Gl X x) (hm : X.mg x = none) (hv : bootBuiltins x = some (.builtin id)) (ha : SA K X (e :: es) fa) (hn : x ≠ "__name__" := by decide) (hdb : (x == ("__debug__" : Str)) = false := by decide)
    (he : starEach (e :: es) X.env = (false, eval e X.env) :: starEach es X.env := by rfl) (hpl : (backTo pos (starEach es X.env)).any (·.1) = false := by rfl) : SE K X (.Call (.Name x p) (e :: es) [] pos) (fL g fa) :=
  SE.imp (fun hK hq => pe_callB (hc hK hq) hg hm hv (ha hK hq) hn hdb he hpl) fun _ _ _ => rE.list
theorem se_callTy {T : String} {g : GL} (hc : X.K = K.K → X.calm = true → CallR X (.type T) (rL K g)) (hg : Gl X x) (hm : X.mg x = none) (hv : bootBuiltins x = some (.type T)) (ha : SA K X (e :: es) fa) (hn : x ≠ "__name__" := by decide) (hdb : (x == ("__debug__" : Str)) = false := by decide)
    (he : starEach (e :: es) X.env = (false, eval e X.env) :: starEach es X.env := by rfl) (hpl : (backTo pos (starEach es X.env)).any (·.1) = false := by rfl) : SE K X (.Call (.Name x p) (e :: es) [] pos) (fL g fa) :=
  SE.imp (fun hK hq => pe_callTy (hc hK hq) hg hm hv (ha hK hq) hn hdb he hpl) fun _ _ _ => rE.list
def bAbs : GL
  | [.int i], M => some (.int (if i < 0 then -i else i), M)
  | _, _ => none
def bMax : GL
  | [.int i, .int j], M => some (.int (if j > i then j else i), M)
  | _, _ => none
def bMin : GL
  | [.int i, .int j], M => some (.int (if j < i then j else i), M)
  | _, _ => none
def bInt : GL
  | [.int i], M => some (.int i, M)
  | [.bl k], M => some (.int (if k then 1 else 0), M)
  | _, _ => none
/-- the items of a list or tuple -/
def seqOf : D → Mem → Option (List D)
  | .tup ds, _ => some ds
  | .rol ds, _ => some ds
  | .rf i, M => match M[i]? with
    | some (.lst ds) => some ds
    | _ => none
  | _, _ => none
def bLen : GL
  | [.str z], M => if z.length ≤ 100000 then some (.int z.length, M) else none
  | [d], M => (seqOf d M).map fun ds => (.int ds.length, M)
  | _, _ => none
def bTuple : GL
  | [d], M => (seqOf d M).map fun ds => (.tup ds, M)
  | _, _ => none
def bList : GL
  | [d], M => (seqOf d M).map fun ds => (.rf M.length, M ++ [.lst ds])
  | _, _ => none
def D.ints : List D → Option (List Int)
  | [] => some []
  | .int i :: ds => (D.ints ds).map (i :: ·)
  | _ => none
def D.bls : List D → Option (List Bool)
  | [] => some []
  | .bl i :: ds => (D.bls ds).map (i :: ·)
  | _ => none
/-- the items of a list -/
def lstOf : D → Mem → Option (List D)
  | .rol ds, _ => some ds
  | .rf i, M => match M[i]? with
    | some (.lst ds) => some ds
    | _ => none
  | _, _ => none
def bSum : GL
  | [d], M => (lstOf d M).bind fun ds => (D.ints ds).map fun ns => (.int ns.sum, M)
  | _, _ => none
def bAll : GL
  | [d], M => (lstOf d M).bind fun ds => (D.bls ds).map fun bs => (.bl (bs.all id), M)
  | _, _ => none
def bAny : GL
  | [d], M => (lstOf d M).bind fun ds => (D.bls ds).map fun bs => (.bl (bs.any id), M)
  | _, _ => none
theorem D.ints_rel {as : List Addr} {H : Hp} : ∀ {vs : List V} {ds : List D} {ns : List Int}, VRs K as H vs ds → D.ints ds = some ns → vs = ns.map V.int
  | _, _, _, .nil, e => by cases e; rfl
  | _, _, _, .cons (.int i) hs, e => by
    simp only [D.ints, Option.map_eq_some_iff] at e
    obtain ⟨r, e, rfl⟩ := e
    rw [D.ints_rel hs e]; rfl
  | _, _, _, .cons .non hs, e => by cases e
  | _, _, _, .cons (.bl _) hs, e => by cases e
  | _, _, _, .cons (.str _) hs, e => by cases e
  | _, _, _, .cons (.ty _) hs, e => by cases e
  | _, _, _, .cons (.fn _) hs, e => by cases e
  | _, _, _, .cons (.tup _ _) hs, e => by cases e
  | _, _, _, .cons (.rol _ _) hs, e => by cases e
  | _, _, _, .cons (.rf _) hs, e => by cases e
theorem D.bls_rel {as : List Addr} {H : Hp} : ∀ {vs : List V} {ds : List D} {ns : List Bool}, VRs K as H vs ds → D.bls ds = some ns → vs = ns.map V.bl
  | _, _, _, .nil, e => by cases e; rfl
  | _, _, _, .cons (.bl i) hs, e => by
    simp only [D.bls, Option.map_eq_some_iff] at e
    obtain ⟨r, e, rfl⟩ := e
    rw [D.bls_rel hs e]; rfl
  | _, _, _, .cons .non hs, e => by cases e
  | _, _, _, .cons (.int _) hs, e => by cases e
  | _, _, _, .cons (.str _) hs, e => by cases e
  | _, _, _, .cons (.ty _) hs, e => by cases e
  | _, _, _, .cons (.fn _) hs, e => by cases e
  | _, _, _, .cons (.tup _ _) hs, e => by cases e
  | _, _, _, .cons (.rol _ _) hs, e => by cases e
  | _, _, _, .cons (.rf _) hs, e => by cases e
theorem seqOf_rel {as : List Addr} {H : Hp} {M : Mem} {v : V} {d : D} {ds : List D} (m : MR K as H M) (r : VR K as H v d) (e : seqOf d M = some ds) : ∃ a xs, v = .ref a ∧ (SqL K.K H a xs ∨ TupS K H a xs) ∧ VRs K as H xs ds := by
  cases r with
  | tup h hs => cases e; exact ⟨_, _, rfl, .inr h, hs⟩
  | rol h hs => cases e; exact ⟨_, _, rfl, .inl h.sq, hs⟩
  | rf h =>
    simp only [seqOf] at e
    split at e
    · rename_i ds' hd
      cases e
      obtain ⟨xs, q, r⟩ := m.lst h hd
      exact ⟨_, xs, rfl, .inl (SqL.of q), r⟩
    · cases e
  | _ => cases e
theorem lstOf_rel {as : List Addr} {H : Hp} {M : Mem} {v : V} {d : D} {ds : List D} (m : MR K as H M) (r : VR K as H v d) (e : lstOf d M = some ds) : ∃ a xs, v = .ref a ∧ SqL K.K H a xs ∧ VRs K as H xs ds := by
  cases r with
  | rol h hs => cases e; exact ⟨_, _, rfl, h.sq, hs⟩
  | rf h =>
    simp only [lstOf] at e
    split at e
    · rename_i ds' hd
      cases e
      obtain ⟨xs, q, r⟩ := m.lst h hd
      exact ⟨_, xs, rfl, SqL.of q, r⟩
    · cases e
  | _ => cases e
theorem cr_abs' : X.K = K.K → X.calm = true → CallR X (.builtin "abs") (rL K bAbs) := fun _ _ pins s σ H xs us Q I r hh => by
  obtain ⟨as, M, ds, d, M', m, q, ev, k⟩ := hh
  unfold bAbs at ev
  split at ev
  · cases ev
    cases q with
    | cons q qs =>
      cases qs
      cases q
      exact call_abs pins s σ H _ us Q I r ⟨_, rfl, k _ as H Gr.refl m (.int _)⟩
  · cases ev
theorem cr_max' : X.K = K.K → X.calm = true → CallR X (.builtin "max") (rL K bMax) := fun _ hc pins s σ H xs us Q I r hh => by
  obtain ⟨as, M, ds, d, M', m, q, ev, k⟩ := hh
  unfold bMax at ev
  split at ev
  · cases ev
    cases q with
    | cons q qs =>
      cases qs with
      | cons q2 qs =>
        cases qs
        cases q
        cases q2
        exact call_max2 hc pins s σ H _ us Q I r ⟨_, _, rfl, k _ as H Gr.refl m (.int _)⟩
  · cases ev
theorem cr_min' : X.K = K.K → X.calm = true → CallR X (.builtin "min") (rL K bMin) := fun _ hc pins s σ H xs us Q I r hh => by
  obtain ⟨as, M, ds, d, M', m, q, ev, k⟩ := hh
  unfold bMin at ev
  split at ev
  · cases ev
    cases q with
    | cons q qs =>
      cases qs with
      | cons q2 qs =>
        cases qs
        cases q
        cases q2
        exact call_min2 hc pins s σ H _ us Q I r ⟨_, _, rfl, k _ as H Gr.refl m (.int _)⟩
  · cases ev
theorem cr_int' : X.K = K.K → X.calm = true → CallR X (.type "int") (rL K bInt) := fun _ _ pins s σ H xs us Q I r hh => by
  obtain ⟨as, M, ds, d, M', m, q, ev, k⟩ := hh
  unfold bInt at ev
  split at ev
  · cases ev
    cases q with
    | cons q qs =>
      cases qs
      cases q
      exact call_int1 pins s σ H _ us Q I r (.inl ⟨_, rfl, k _ as H Gr.refl m (.int _)⟩)
  · cases ev
    cases q with
    | cons q qs =>
      cases qs
      cases q
      exact call_int1 pins s σ H _ us Q I r (.inr ⟨_, rfl, k _ as H Gr.refl m (.int _)⟩)
  · cases ev
theorem cr_len' : X.K = K.K → X.calm = true → CallR X (.builtin "len") (rL K bLen) := fun hK _ pins s σ H xs us Q I r hh => by
  obtain ⟨_, Γ⟩ := K
  cases hK
  obtain ⟨as, M, ds, d, M', m, q, ev, k⟩ := hh
  unfold bLen at ev
  split at ev
  · split at ev
    · rename_i hl
      cases ev
      cases q with
      | cons q qs =>
        cases qs
        cases q
        exact call_len pins s σ H _ us Q I r ⟨_, _, rfl, ⟨lim_ok hl, rfl⟩, k _ as H Gr.refl m (.int _)⟩
    · cases ev
  · cases q with
    | cons q qs =>
      cases qs
      obtain ⟨ds, e1, ev⟩ := Option.map_eq_some_iff.mp ev
      cases ev
      obtain ⟨a, xs, rfl, h, rs⟩ := seqOf_rel m q e1
      refine call_len_seq pins s σ H _ us Q I r ⟨a, xs, rfl, h.imp id TupS.sq, ?_⟩
      rw [rs.len]
      exact k _ as H Gr.refl m (.int _)
  · cases ev
theorem cr_tuple' : X.K = K.K → X.calm = true → CallR X (.type "tuple") (rL K bTuple) := fun hK _ pins s σ H xs us Q I r hh => by
  obtain ⟨_, Γ⟩ := K
  cases hK
  obtain ⟨as, M, ds, d, M', m, q, ev, k⟩ := hh
  unfold bTuple at ev
  split at ev
  · cases q with
    | cons q qs =>
      cases qs
      obtain ⟨ds, e1, ev⟩ := Option.map_eq_some_iff.mp ev
      cases ev
      obtain ⟨a, xs, rfl, h, rs⟩ := seqOf_rel m q e1
      refine call_tuple_of pins s σ H _ us Q I r ⟨a, xs, rfl, h.imp (fun h => ⟨h, fun l hl => ?_⟩) fun h => ⟨h.sq, k _ as H Gr.refl m (.tup h rs)⟩⟩
      have g : Gr as H as (upd H l (.tup xs)) := Gr.new hl
      exact k _ as _ g (m.new hl) (.tup (.inl upd_same) (rs.gr g))
  · cases ev
theorem cr_list' : X.K = K.K → X.calm = true → CallR X (.type "list") (rL K bList) := fun hK _ pins s σ H xs us Q I r hh => by
  obtain ⟨_, Γ⟩ := K
  cases hK
  obtain ⟨as, M, ds, d, M', m, q, ev, k⟩ := hh
  unfold bList at ev
  split at ev
  · cases q with
    | cons q qs =>
      cases qs
      obtain ⟨ds, e1, ev⟩ := Option.map_eq_some_iff.mp ev
      cases ev
      obtain ⟨a, xs, rfl, h, rs⟩ := seqOf_rel m q e1
      refine call_list_of pins s σ H _ us Q I r ⟨a, xs, rfl, h.imp id TupS.sq, fun l hl => ?_⟩
      have g : Gr as H (as ++ [l]) (upd H l (.lst xs)) := Gr.alloc hl
      exact k _ _ _ g (m.alloc hl ⟨_, upd_same, rs.gr g⟩) (.rf (by rw [← m.len]; simp))
  · cases ev
theorem cr_sum' : X.K = K.K → X.calm = true → CallR X (.builtin "sum") (rL K bSum) := fun hK hc pins s σ H xs us Q I r hh => by
  obtain ⟨_, Γ⟩ := K
  cases hK
  obtain ⟨as, M, ds, d, M', m, q, ev, k⟩ := hh
  unfold bSum at ev
  split at ev
  · cases q with
    | cons q qs =>
      cases qs
      obtain ⟨ds, e1, ev⟩ := Option.bind_eq_some_iff.mp ev
      obtain ⟨ns, e2, ev⟩ := Option.map_eq_some_iff.mp ev
      cases ev
      obtain ⟨a, xs, rfl, h, rs⟩ := lstOf_rel m q e1
      have := D.ints_rel rs e2
      subst this
      exact cr_sum hc pins s σ H _ us Q I r ⟨a, ns, rfl, h, k _ as H Gr.refl m (.int _)⟩
  · cases ev
theorem cr_all' : X.K = K.K → X.calm = true → CallR X (.builtin "all") (rL K bAll) := fun hK hc pins s σ H xs us Q I r hh => by
  obtain ⟨_, Γ⟩ := K
  cases hK
  obtain ⟨as, M, ds, d, M', m, q, ev, k⟩ := hh
  unfold bAll at ev
  split at ev
  · cases q with
    | cons q qs =>
      cases qs
      obtain ⟨ds, e1, ev⟩ := Option.bind_eq_some_iff.mp ev
      obtain ⟨ns, e2, ev⟩ := Option.map_eq_some_iff.mp ev
      cases ev
      obtain ⟨a, xs, rfl, h, rs⟩ := lstOf_rel m q e1
      have := D.bls_rel rs e2
      subst this
      exact cr_all hc pins s σ H _ us Q I r ⟨a, ns, rfl, h, k _ as H Gr.refl m (.bl _)⟩
  · cases ev
theorem cr_any' : X.K = K.K → X.calm = true → CallR X (.builtin "any") (rL K bAny) := fun hK hc pins s σ H xs us Q I r hh => by
  obtain ⟨_, Γ⟩ := K
  cases hK
  obtain ⟨as, M, ds, d, M', m, q, ev, k⟩ := hh
  unfold bAny at ev
  split at ev
  · cases q with
    | cons q qs =>
      cases qs
      obtain ⟨ds, e1, ev⟩ := Option.bind_eq_some_iff.mp ev
      obtain ⟨ns, e2, ev⟩ := Option.map_eq_some_iff.mp ev
      cases ev
      obtain ⟨a, xs, rfl, h, rs⟩ := lstOf_rel m q e1
      have := D.bls_rel rs e2
      subst this
      exact cr_any hc pins s σ H _ us Q I r ⟨a, ns, rfl, h, k _ as H Gr.refl m (.bl _)⟩
  · cases ev
/-! isinstance -/
def tyOf : D → Mem → Option String
  | .non, _ => some "NoneType"
  | .bl _, _ => some "bool"
  | .int _, _ => some "int"
  | .str _, _ => some "str"
  | .tup _, _ => some "tuple"
  | .rol _, _ => some "list"
  | .rf i, M => match M[i]? with
    | some (.lst _) => some "list"
    | some (.dK _) => some "dict"
    | _ => none
  | _, _ => none
theorem tyOf_rel {as : List Addr} {H : Hp} {M : Mem} {v : V} {d : D} {T : String} (m : MR K as H M) (r : VR K as H v d) (e : tyOf d M = some T) : TyX K.K H v (.type T) := by
  cases r with
  | non => cases e; exact .base .non
  | bl b => cases e; exact .base (.bl b)
  | int b => cases e; exact .base (.int b)
  | str b => cases e; exact .base (.str b)
  | ty b => cases e
  | fn b => cases e
  | tup h hs =>
    cases e
    rcases h with h | h
    · exact .base (.tup h)
    · rcases h (fun _ => none) with h | ⟨o, its, n, h1, h2, _⟩
      · rcases h with h | ⟨o, h⟩ <;> cases h
      · exact .kTuple h1 h2
  | rol h hs =>
    cases e
    rcases h with ⟨o, h⟩ | h
    · exact .base (.frz h)
    · rcases h (fun _ => none) with h | ⟨o, its, n, h1, h2, _⟩
      · rcases h with h | ⟨o, h⟩ <;> cases h
      · exact .kList h1 h2
  | @rf i a h =>
    simp only [tyOf] at e
    split at e
    · rename_i hd
      cases e
      obtain ⟨xs, q, _⟩ := m.cell i a _ h hd
      exact .base (.lst q)
    · rename_i hd
      cases e
      obtain ⟨xs, q, _⟩ := m.cell i a _ h hd
      exact .base (.dK q)
    · cases e
def bIsi : GL
  | [d, .ty T], M => (tyOf d M).bind fun t => (kitB t T).map fun b => (.bl b, M)
  | _, _ => none
theorem cr_isi' : X.K = K.K → X.calm = true → CallR X (.builtin "isinstance") (rL K bIsi) := fun hK hc pins s σ H xs us Q I r hh => by
  obtain ⟨_, Γ⟩ := K
  cases hK
  obtain ⟨as, M, ds, d, M', m, q, ev, k⟩ := hh
  unfold bIsi at ev
  split at ev
  · cases q with
    | cons q qs =>
      cases qs with
      | cons q2 qs =>
        cases qs
        cases q2
        obtain ⟨t, e1, ev⟩ := Option.bind_eq_some_iff.mp ev
        obtain ⟨b, e2, ev⟩ := Option.map_eq_some_iff.mp ev
        cases ev
        exact call_isi pins s σ H _ us Q I r ⟨_, _, _, _, b, rfl, .ty _, tyOf_rel m q e1, kit_ty e2, k _ as H Gr.refl m (.bl _)⟩
  · cases ev
/-! stores and methods of lists -/
def setAt (o i d : D) (M : Mem) : Option Mem := match o, i with
  | .rf l, .int k => match M[l]? with
    | some (.lst ds) => (ixN ds.length k).map fun j => M.set l (.lst (ds.set j d))
    | _ => none
  | _, _ => none
def sSub (fe fo fi : FE) : FS := fun ρ M => (fe ρ M).bind fun p => (fo ρ p.2).bind fun q => (fi ρ q.2).bind fun r => (setAt q.1 r.1 p.1 r.2).map fun M' => (.nx ρ, M')
theorem ss_sub {i : Expr} (he : SE K X e fe) (ho : SE K X o fo) (hi : SE K X i fi) (hs : swapsWithSole [.Subscript o i p] e pos.line X.env = pure false := by rfl) (hw : swappedStores [.Subscript o i p] e X.env = pure none := by rfl)
    (h1 : (assignEach [.Subscript o i p] X.env).map (·.2) = [assign (.Subscript o i p) X.env] := by rfl)
    (ha : ∀ v, assign (.Subscript o i p) X.env v = (do
      let ov ← holding [v] (eval o X.env)
      let iv ← holding [v, ov] (eval i X.env)
      standAt p
      holding [v, ov, iv] (setItem ov iv v)
      release [v, ov, iv] []) := by intro _; rfl) : SS K X (.Assign [.Subscript o i p] e pos) (sSub fe fo fi) := fun hK hc => ps_mono (ps_asg (he hK hc) (pg_sub (ho hK hc) (hi hK hc) set_list ha) hs hw h1) fun D σ H ⟨as, ρ, M, fl, M', sr, mr, ev, k⟩ => by
  unfold sSub at ev
  obtain ⟨⟨d, M1⟩, e1, ev⟩ := Option.bind_eq_some_iff.mp ev
  obtain ⟨⟨od, M2⟩, e2, ev⟩ := Option.bind_eq_some_iff.mp ev
  obtain ⟨⟨id, M3⟩, e3, ev⟩ := Option.bind_eq_some_iff.mp ev
  obtain ⟨M4, e4, ev⟩ := Option.map_eq_some_iff.mp ev
  cases ev
  refine ⟨as, ρ, M, d, M1, sr, mr, e1, fun v as1 H1 g1 m1 r1 => ⟨as1, ρ, M1, od, M2, sr.gr g1, m1, e2, fun u as2 H2 g2 m2 r2 => ⟨as2, ρ, M2, id, M3, (sr.gr g1).gr g2, m2, e3, fun w as3 H3 g3 m3 r3 => ?_⟩⟩⟩
  cases r2 with
  | @rf l a h =>
    cases r3 with
    | int kk =>
      simp only [setAt] at e4
      split at e4
      · rename_i ds hd
        obtain ⟨j, e5, e4⟩ := Option.map_eq_some_iff.mp e4
        subst e4
        have h := g3.gv.get h
        obtain ⟨xs, q, rs⟩ := m3.lst h hd
        have gw : Gr as3 H3 as3 (upd H3 a (.lst (xs.set j v))) := Gr.write m3 (List.mem_of_getElem? h)
        refine ⟨a, xs, kk, j, rfl, rfl, q, by rw [rs.len]; exact e5, ?_⟩
        exact k σ as3 _ (((g1.trans g2).trans g3).trans gw) (m3.write h ⟨_, upd_same, (rs.set (r1.gr (g2.trans g3)) j).gr gw⟩) ((((sr.gr g1).gr g2).gr g3).gr gw)
      · cases e4
    | _ => cases e4
  | _ => cases e4
/-- the receiver of a list's method -/
def isLst : D → Mem → Bool
  | .rf i, M => match M[i]? with
    | some (.lst _) => true
    | _ => false
  | .rol _, _ => true
  | _, _ => false
def fML (g : D → GL) (fo : FE) (fa : FA) : FE := fun ρ M => (fo ρ M).bind fun o => if isLst o.1 o.2 = true then (fa ρ o.2).bind fun p => g o.1 p.1 p.2 else none
theorem isLst_rel {as : List Addr} {H : Hp} {M : Mem} {v : V} {d : D} (m : MR K as H M) (r : VR K as H v d) (e : isLst d M = true) : tyV K.K "list" v H := by
  cases r with
  | rol h hs => exact .inl ⟨rfl, _, h.sq⟩
  | @rf i a h =>
    simp only [isLst] at e
    split at e
    · rename_i hd
      obtain ⟨xs, q, _⟩ := m.lst h hd
      exact .inl ⟨rfl, xs, SqL.of q⟩
    · cases e
  | _ => cases e
theorem rE.ml {g : D → GL} {σ : L2.St} {H : Hp} {Q : VK} (h : rE K (fML g fo fa) σ H Q) : tBM K.K "list" (rM K g) (rE K fo) (rA K fa) σ H Q := by
  obtain ⟨as, ρ, M, d, M', sr, mr, ev, k⟩ := h
  unfold fML at ev
  obtain ⟨⟨od, M1⟩, e1, ev⟩ := Option.bind_eq_some_iff.mp ev
  split at ev
  · rename_i hi
    obtain ⟨⟨ds, M2⟩, e2, ev⟩ := Option.bind_eq_some_iff.mp ev
    exact ⟨as, ρ, M, od, M1, sr, mr, e1, fun v as1 H1 g1 m1 r1 => ⟨isLst_rel m1 r1 hi, as1, ρ, M1, ds, M2, sr.gr g1, m1, e2, fun vs as2 H2 g2 m2 r2 => ⟨as2, M2, od, ds, d, M', m2, r1.gr g2, r2, ev, fun u as3 H3 g3 m3 r3 => k u as3 H3 ((g1.trans g2).trans g3) m3 r3⟩⟩⟩
  · cases ev
def mApp : D → GL
  | .rf l, [d], M => match M[l]? with
    | some (.lst ds) => if ds.length < 100000 then some (.non, M.set l (.lst (ds ++ [d]))) else none
    | _ => none
  | _, _, _ => none
theorem mr_append : X.K = K.K → X.calm = true → MtR X "list.append" (rM K mApp) := fun hK _ pins s σ H x xs v us Q I r1 r2 hh => by
  obtain ⟨_, Γ⟩ := K
  cases hK
  obtain ⟨as, M, dx, ds, d, M', m, q1, q2, ev, k⟩ := hh
  unfold mApp at ev
  split at ev
  · split at ev
    · rename_i ds hd
      split at ev
      · rename_i hl
        cases ev
        cases q1 with
        | @rf i a h =>
          cases q2 with
          | @cons y _ _ _ q q2 =>
            cases q2
            obtain ⟨ys, p1, rs⟩ := m.lst h hd
            have gw : Gr as H as (upd H a (.lst (ys ++ [y]))) := Gr.write m (List.mem_of_getElem? h)
            exact mt_append pins s σ H _ _ v us Q I r1 r2 ⟨a, ys, _, rfl, rfl, p1, Nat.lt_of_lt_of_le (by rw [rs.len]; exact hl) (lim_ok (Nat.le_refl _)), k _ as _ gw (m.write h ⟨_, upd_same, (rs.append (.cons q .nil)).gr gw⟩) .non⟩
      · cases ev
    · cases ev
  · cases ev
theorem se_app (ho : SE K X o fo) (ha : SA K X (e :: es) fa) (hbase : attributeBase o "append" X.env (eval o X.env) = eval o X.env := by rfl)
    (hfew : ((backTo cpos (starEach (e :: es) X.env)).all (fun x => !x.1) && (backToKw cpos (keywordEach [] X.env)).all (fun x => x.1.isSome)
      && decide ((e :: es).length + ([] : List Keyword).length + (if ([] : List Keyword).isEmpty then 0 else 1) < 30)) = true := by rfl)
    (hline : (apos.endLine == cpos.line) = true := by rfl) (hs : starEach (e :: es) X.env = (false, eval e X.env) :: starEach es X.env := by rfl) (hplain : (backTo cpos (starEach es X.env)).any (·.1) = false := by rfl) :
    SE K X (.Call (.Attribute o "append" apos) (e :: es) [] cpos) (fML mApp fo fa) := fun hK hc => by
  obtain ⟨_, Γ⟩ := K
  cases hK
  exact pe_mono (pe_bm PySem.F.plainAttrs_list PySem.F.slot_list_append PySem.F.type_list_append (mr_append rfl hc) (ho rfl hc) (ha rfl hc) hbase hfew hline hs hplain) fun _ _ _ => rE.ml
def mRev : D → GL
  | .rf l, [], M => match M[l]? with
    | some (.lst ds) => some (.non, M.set l (.lst ds.reverse))
    | _ => none
  | _, _, _ => none
theorem rE.ml0 {g : D → GL} {σ : L2.St} {H : Hp} {Q : VK} (h : rE K (fML g fo fNil) σ H Q) : tBM0 K.K "list" (rM K g) (rE K fo) σ H Q := by
  obtain ⟨as, ρ, M, d, M', sr, mr, ev, k⟩ := h
  unfold fML at ev
  obtain ⟨⟨od, M1⟩, e1, ev⟩ := Option.bind_eq_some_iff.mp ev
  split at ev
  · rename_i hi
    obtain ⟨⟨ds, M2⟩, e2, ev⟩ := Option.bind_eq_some_iff.mp ev
    cases e2
    exact ⟨as, ρ, M, od, M1, sr, mr, e1, fun v as1 H1 g1 m1 r1 => ⟨isLst_rel m1 r1 hi, as1, M1, od, [], d, M', m1, r1, .nil, ev, fun u as3 H3 g3 m3 r3 => k u as3 H3 (g1.trans g3) m3 r3⟩⟩
  · cases ev
theorem mr_reverse : X.K = K.K → X.calm = true → MtR X "list.reverse" (rM K mRev) := fun hK _ pins s σ H x xs v us Q I r1 r2 hh => by
  obtain ⟨_, Γ⟩ := K
  cases hK
  obtain ⟨as, M, dx, ds, d, M', m, q1, q2, ev, k⟩ := hh
  unfold mRev at ev
  split at ev
  · split at ev
    · rename_i ds hd
      cases ev
      cases q1 with
      | @rf i a h =>
        cases q2
        obtain ⟨ys, p1, rs⟩ := m.lst h hd
        have gw : Gr as H as (upd H a (.lst ys.reverse)) := Gr.write m (List.mem_of_getElem? h)
        exact mt_reverse pins s σ H _ _ v us Q I r1 r2 ⟨a, ys, rfl, rfl, p1, k _ as _ gw (m.write h ⟨_, upd_same, rs.rev.gr gw⟩) .non⟩
    · cases ev
  · cases ev
theorem se_revM (ho : SE K X o fo) (hbase : attributeBase o "reverse" X.env (eval o X.env) = eval o X.env := by rfl)
    (hline : (apos.endLine == cpos.line) = true := by rfl) :
    SE K X (.Call (.Attribute o "reverse" apos) [] [] cpos) (fML mRev fo fNil) := fun hK hc => by
  obtain ⟨_, Γ⟩ := K
  cases hK
  exact pe_mono (pe_bm0 PySem.F.plainAttrs_list PySem.F.slot_list_reverse PySem.F.type_list_reverse (mr_reverse rfl hc) (ho rfl hc) hbase hline) fun _ _ _ => fun h => rE.ml0 h
/-! slices -/
/-- as cutV, of the mirror's lists -/
def cutD (xs : List D) (lo hi : Option Int) : List D := (xs.drop (HT.sIx xs.length 0 lo)).take (HT.sIx xs.length xs.length hi - HT.sIx xs.length 0 lo)
def gSl : D → Option Int → Option Int → Mem → Option (D × Mem)
  | .tup ds, lo, hi, M => some (.tup (cutD ds lo hi), M)
  | .rol ds, lo, hi, M => some (.rf M.length, M ++ [.lst (cutD ds lo hi)])
  | .str z, lo, hi, M => if z.length ≤ 100000 then some (.str (cutS z lo hi), M) else none
  | .rf i, lo, hi, M => match M[i]? with
    | some (.lst ds) => some (.rf M.length, M ++ [.lst (cutD ds lo hi)])
    | _ => none
  | _, _, _, _ => none
theorem VRs.cut {as : List Addr} {H : Hp} {xs : List V} {ds : List D} {lo hi : Option Int} (h : VRs K as H xs ds) : VRs K as H (cutV xs lo hi) (cutD ds lo hi) := by
  unfold cutV cutD
  rw [h.len]
  exact (h.drop _).take _
def oF (o : Option FE) : Rho → Mem → Option (Option Int × Mem) := fun ρ M => match o with
  | none => some (none, M)
  | some f => (f ρ M).bind fun q => match q.1 with
    | .int i => some (some i, q.2)
    | _ => none
def rPO (K : Kx) (f : Rho → Mem → Option (Option Int × Mem)) : TO := fun σ H Q => ∃ as ρ M b M', SR K as H σ ρ ∧ MR K as H M ∧ f ρ M = some (b, M') ∧ ∀ as' H', Gr as H as' H' → MR K as' H' M' → Q b H'
def SPO (K : Kx) (X : Cx) (e : Option Expr) (f : Option FE) : Prop := X.K = K.K → X.calm = true → PO X e (rPO K (oF f))
theorem po_mono {e : Option Expr} {t t' : TO} (h : PO X e t) (m : ∀ σ H Q, t' σ H Q → t σ H Q) : PO X e t' := ⟨fun pins s σ H Q I q => h.run pins s σ H Q I (m σ H Q q)⟩
theorem spo_none : SPO K X none none := fun _ _ => po_mono po_none fun σ H Q ⟨as, ρ, M, b, M', sr, mr, ev, k⟩ => by
  cases ev
  exact k as H Gr.refl mr
theorem spo_some (he : SE K X e fe) : SPO K X (some e) (some fe) := fun hK hc => po_mono (po_some (he hK hc)) fun σ H Q ⟨as, ρ, M, b, M', sr, mr, ev, k⟩ => by
  unfold oF at ev
  dsimp only at ev
  obtain ⟨⟨d, M1⟩, e1, ev⟩ := Option.bind_eq_some_iff.mp ev
  refine ⟨as, ρ, M, d, M1, sr, mr, e1, fun v as1 H1 g1 m1 r1 => ?_⟩
  cases r1 with
  | int i => cases ev; exact ⟨i, rfl, k as1 H1 g1 m1⟩
  | _ => cases ev
theorem slr (hK : X.K = K.K) : SlR X (fun x lo hi H Q => ∃ as M dx d M', MR K as H M ∧ VR K as H x dx ∧ gSl dx lo hi M = some (d, M') ∧ ∀ v as' H', Gr as H as' H' → MR K as' H' M' → VR K as' H' v d → Q v H') := by
  obtain ⟨_, Γ⟩ := K
  cases hK
  have base := SlR.or (sl_tupA (X := X)) (SlR.or (sl_list (X := X)) (sl_str (X := X)))
  intro pins s σ H x v vl vu lo hi sl Q I rx h1 h2 h3 hh
  refine base pins s σ H x v vl vu lo hi sl Q I rx h1 h2 h3 ?_
  obtain ⟨as, M, dx, d, M', m, q, ev, k⟩ := hh
  cases q with
  | @tup a xs ds h hs =>
    cases ev
    refine .inl ⟨a, xs, rfl, h.sq, fun z => ?_, fun z l hl => ?_⟩
    · have e : cutD ds lo hi = ds := by
        unfold cutD
        rw [← hs.len, z.1, z.2, hs.len]
        simp
      rw [e] at k
      exact k _ as H Gr.refl m (.tup h hs)
    · have g : Gr as H as (upd H l (.tup (cutV xs lo hi))) := Gr.new hl
      exact k _ as _ g (m.new hl) (.tup (.inl upd_same) (hs.cut.gr g))
  | @rol a xs ds h hs =>
    cases ev
    refine .inr (.inl ⟨a, xs, rfl, h.sq, fun l hl => ?_⟩)
    have g : Gr as H (as ++ [l]) (upd H l (.lst (cutV xs lo hi))) := Gr.alloc hl
    exact k _ _ _ g (m.alloc hl ⟨_, upd_same, hs.cut.gr g⟩) (.rf (by rw [← m.len]; simp))
  | str z =>
    simp only [gSl] at ev
    split at ev
    · rename_i hl
      cases ev
      exact .inr (.inr ⟨z, rfl, lim_ok hl, k _ as H Gr.refl m (.str _)⟩)
    · cases ev
  | @rf i a h =>
    simp only [gSl] at ev
    split at ev
    · rename_i ds hd
      cases ev
      obtain ⟨xs, p1, hs⟩ := m.lst h hd
      refine .inr (.inl ⟨a, xs, rfl, SqL.of p1, fun l hl => ?_⟩)
      have g : Gr as H (as ++ [l]) (upd H l (.lst (cutV xs lo hi))) := Gr.alloc hl
      exact k _ _ _ g (m.alloc hl ⟨_, upd_same, hs.cut.gr g⟩) (.rf (by rw [← m.len]; simp))
    · cases ev
  | _ => cases ev
def fSli (fe : FE) (lo hi : Option FE) : FE := fun ρ M => (fe ρ M).bind fun p => (oF lo ρ p.2).bind fun q => (oF hi ρ q.2).bind fun r => gSl p.1 q.1 r.1 r.2
theorem se_slice {lo hi : Option Expr} {fl fh : Option FE} {p2 : Pos} (he : SE K X e fe) (hl : SPO K X lo fl) (hh : SPO K X hi fh) : SE K X (.Subscript e (.Slice lo hi none p2) pos) (fSli fe fl fh) :=
  SE.imp (fun hK hc => pe_slice (slr hK) (he hK hc) (hl hK hc) (hh hK hc)) fun σ H Q ⟨as, ρ, M, d, M', sr, mr, ev, k⟩ => by
    obtain ⟨⟨x, M1⟩, e1, ev⟩ := Option.bind_eq_some_iff.mp ev
    obtain ⟨⟨a, M2⟩, e2, ev⟩ := Option.bind_eq_some_iff.mp ev
    obtain ⟨⟨b, M3⟩, e3, ev⟩ := Option.bind_eq_some_iff.mp ev
    exact ⟨as, ρ, M, x, M1, sr, mr, e1, fun v as1 H1 g1 m1 r1 => ⟨as1, ρ, M1, a, M2, sr.gr g1, m1, e2, fun as2 H2 g2 m2 => ⟨as2, ρ, M2, b, M3, (sr.gr g1).gr g2, m2, e3, fun as3 H3 g3 m3 => ⟨as3, M3, x, d, M', m3, (r1.gr g2).gr g3, ev, fun w as4 H4 g4 m4 r4 => k w as4 H4 (((g1.trans g2).trans g3).trans g4) m4 r4⟩⟩⟩⟩
end

/-! ### ends -/
section
variable {P : Program} {w : World} {K : Kx} {mg : Str → Option Value} {base : Heap} {k n : Nat} {f : Addr} {fd : FuncData} {ps : List Str}
theorem ok0P : FnOk P w K.K mg base CX0 k f fd ps (spP K n fun _ => none) where
  len := fun _ _ _ _ ⟨_, _, _, _, e, _⟩ => by cases e
  run := fun _ _ _ _ _ _ _ _ _ _ _ _ _ ⟨_, _, _, _, e, _⟩ => by cases e
theorem ok0M : FnOk P w K.K mg base CX0 k f fd ps (spM K n fun _ _ => none) where
  len := fun _ _ _ _ ⟨_, _, _, _, _, _, _, _, e, _⟩ => by cases e
  run := fun _ _ _ _ _ _ _ _ _ _ _ _ _ ⟨_, _, _, _, _, _, _, _, e, _⟩ => by cases e
theorem vr_written {as : List Addr} {H : Hp} {q : Addr} {od : Option Addr} {its : Array Value} {n : Nat} {sl : Array (Option Value)} {xs : List V} {ds : List D}
    (k : K.K.lookup q = some ⟨.type "tuple", od, .seq its n, sl⟩) (hz : its.size ≤ sizeLine) (hd : VRs K as H xs ds) (rel : Vals xs its.toList) : VR K as H (.ref q) (.tup ds) :=
  .tup (.inr fun _ => .inr ⟨_, its, n, k, rfl, rfl, hz, rel⟩) hd
theorem ints_vr {as : List Addr} {H : Hp} : ∀ ns : List Int, VRs K as H (ns.map V.int) (ns.map D.int)
  | [] => .nil
  | n :: ns => .cons (.int n) (ints_vr ns)
theorem law_sp {m : GL} (h : ∀ ns : List Int, ns.length ≤ 63 → ∃ M, m [.rol (ns.map D.int)] [] = some (.bl true, M)) {vs : List V} {H : Hp} {Q : VK} {E : XK}
    (q : ∃ (a : Addr) (ns : List Int), vs = [.ref a] ∧ Only H ∧ SqL K.K H a (ns.map V.int) ∧ ns.length ≤ 63 ∧ ∀ H', Q (.bl true) H') : spM K 1 m vs H Q E := by
  obtain ⟨a, ns, rfl, hO, hS, hl, k⟩ := q
  obtain ⟨M, e⟩ := h ns hl
  have r : RolS K H a (ns.map V.int) := by
    rcases hS with hS | hS
    · rcases hS with hS | ⟨o, hS⟩
      · rcases hO a with z | ⟨o, xs, z⟩ <;> rw [hS] at z <;> cases z
      · exact .inl ⟨o, hS⟩
    · exact .inr fun _ => .inr hS
  refine ⟨[], [], _, _, M, rfl, MR.nil, .cons (.rol r (ints_vr ns)) .nil, e, fun v as' H' g m rv => ?_⟩
  cases rv
  exact k H'
end
section
variable {K : Kx} {X : Cx} {e : Expr} {es : List Expr} {fe : FE} {fr : FA} {pos p tpos p1 p2 : Pos}
theorem st_chain {op op' : CmpOp} {g g' : G2} {a b c : Expr} {fa fb fc : FE} (ho : X.K = K.K → OpR X (compareOp op) (rO K g)) (ho' : X.K = K.K → OpR X (compareOp op') (rO K g')) (ha : SE K X a fa) (hb : SE K X b fb) (hc : SE K X c fc)
    (hm : lastMarks [op, op'] [b, c] = false := by with_unfolding_all rfl) : ST K X (.Compare a [op, op'] [b, c] pos) (tV (fCh g g' fa fb fc)) :=
  fun hK hq => pt_mono (pt_chain (ho hK) (ho' hK) (ha hK hq) (hb hK hq) (hc hK hq) hm) fun σ H Q ⟨as, ρ, M, d, M', sr, mr, ev, k⟩ => by
    unfold tV at ev
    obtain ⟨⟨x, M1⟩, e1, ev⟩ := Option.bind_eq_some_iff.mp ev
    unfold fCh at e1
    obtain ⟨⟨x0, M2⟩, e2, e1⟩ := Option.bind_eq_some_iff.mp e1
    obtain ⟨⟨y0, M3⟩, e3, e1⟩ := Option.bind_eq_some_iff.mp e1
    obtain ⟨⟨z0, M4⟩, e4, e1⟩ := Option.bind_eq_some_iff.mp e1
    refine ⟨as, ρ, M, x0, M2, sr, mr, e2, fun v as1 H1 g1 m1 r1 => ⟨as1, ρ, M2, y0, M3, sr.gr g1, m1, e3, fun u as2 H2 g2 m2 r2 => ⟨as2, M3, x0, y0, z0, M4, m2, r1.gr g2, r2, e4, fun w as3 H3 g3 m3 r3 => ?_⟩⟩⟩
    cases z0 with
    | bl kk =>
      cases r3
      refine ⟨kk, rfl, ?_⟩
      dsimp only at e1
      cases kk with
      | true =>
        rw [if_pos rfl] at e1
        refine ite_y rfl ?_
        obtain ⟨⟨s, M5⟩, e5, e1⟩ := Option.bind_eq_some_iff.mp e1
        refine ⟨as3, ρ, M4, s, M5, ((sr.gr g1).gr g2).gr g3, m3, e5, fun q as4 H4 g4 m4 r4 => ⟨as4, M5, y0, s, x, M1, m4, (r2.gr g3).gr g4, r4, e1, fun p as5 H5 g5 m5 r5 => ?_⟩⟩
        cases x with
        | bl b =>
          cases ev
          cases r5
          exact ⟨_, rfl, k as5 H5 ((((g1.trans g2).trans g3).trans g4).trans g5) m5⟩
        | _ => cases ev
      | false =>
        rw [if_neg (fun z => nomatch z)] at e1
        refine ite_n (fun z => nomatch z) ?_
        cases e1
        cases ev
        exact ⟨false, rfl, k as3 H3 ((g1.trans g2).trans g3) m3⟩
    | _ => cases e1
/-- isinstance(x, (T1, T2)) -/
def gT2 (T1 T2 : String) : G1 := fun d M => (tyOf d M).bind fun t => (kitB t T1).bind fun a => (kitB t T2).map fun b => (.bl (a || b), M)
theorem se_isT2 {T1 T2 : String} {x1 x2 : Str} (hg : Gl X "isinstance") (hm : X.mg "isinstance" = none) (hg1 : Gl X x1) (hm1 : X.mg x1 = none) (hv1 : bootBuiltins x1 = some (.type T1)) (hg2 : Gl X x2) (hm2 : X.mg x2 = none) (hv2 : bootBuiltins x2 = some (.type T2)) {kk : Nat} (he : SE K X e fe)
    (hn1 : x1 ≠ "__name__" := by decide) (hd1 : (x1 == ("__debug__" : Str)) = false := by decide) (hn2 : x2 ≠ "__name__" := by decide) (hd2 : (x2 == ("__debug__" : Str)) = false := by decide)
    (h1 : starEach [e, .Tuple [.Name x1 p1, .Name x2 p2] kk tpos] X.env = (false, eval e X.env) :: starEach [.Tuple [.Name x1 p1, .Name x2 p2] kk tpos] X.env := by rfl)
    (h2 : (backTo pos (starEach [.Tuple [.Name x1 p1, .Name x2 p2] kk tpos] X.env)).any (·.1) = false := by rfl)
    (h3 : starEach [.Tuple [.Name x1 p1, .Name x2 p2] kk tpos] X.env = (false, eval (.Tuple [.Name x1 p1, .Name x2 p2] kk tpos) X.env) :: starEach [] X.env := by rfl)
    (h4 : starEach [.Name x1 p1, .Name x2 p2] X.env = (false, eval (.Name x1 p1) X.env) :: starEach [.Name x2 p2] X.env := by rfl)
    (h5 : starEach [.Name x2 p2] X.env = (false, eval (.Name x2 p2) X.env) :: starEach [] X.env := by rfl) :
    SE K X (.Call (.Name "isinstance" p) [e, .Tuple [.Name x1 p1, .Name x2 p2] kk tpos] [] pos) (fU (gT2 T1 T2) fe) := fun hK hc => by
  obtain ⟨_, Γ⟩ := K
  cases hK
  have ht : PE X (.Name x1 p1) (tC (.ty T1)) := pe_bltn (v := .ty T1) hg1 hm1 hv1 rfl hn1 hd1
  have hl : PE X (.Name x2 p2) (tC (.ty T2)) := pe_bltn (v := .ty T2) hg2 hm2 hv2 rfl hn2 hd2
  refine pe_mono (pe_callB call_isiT hg hm (by decide +kernel) (pa_cons (he rfl hc) (pa_cons (pe_tup (pa_cons ht (pa_cons hl pa_nil h5) h4)) pa_nil h3) h1) (by decide) (by decide) h1 h2) fun σ H Q ⟨as, ρ, M, d, M', sr, mr, ev, k⟩ => ?_
  unfold fU at ev
  obtain ⟨⟨x, M1⟩, e1, ev⟩ := Option.bind_eq_some_iff.mp ev
  simp only [gT2, Option.bind_eq_some_iff, Option.map_eq_some_iff] at ev
  obtain ⟨t, e2, a, e3, b, e4, ev⟩ := ev
  cases ev
  refine ⟨as, ρ, M, x, _, sr, mr, e1, fun v as1 H1 g1 m1 r1 => ⟨lim_ok (show 2 ≤ 100000 by decide), fun T hT => ?_⟩⟩
  have g2 : Gr as1 H1 as1 (upd H1 T (.tup [.ty T1, .ty T2])) := Gr.new hT
  refine ⟨v, T, _, _, _, a || b, rfl, upd_same, .cons (.ty _) (.cons (.ty _) .nil), tyOf_rel (m1.new hT) (r1.gr g2) e2, ?_, k _ as1 _ (g1.trans g2) (m1.new hT) (.bl _)⟩
  refine kitAny_cons (kit_ty e3) (fun z => ?_) fun z => by rw [z]; rfl
  subst z
  refine kitAny_cons (kit_ty e4) (fun z => ?_) fun z => by rw [z]; rfl
  subst z
  rfl
end

/-! ### a class without __init__ -/
structure MkO (K : PySem.W.Frag) (C : Addr) : Prop where
  makes : PySem.W.makesIn K C = true
  init : PySem.W.findIn K (.ref C) "__init__" = some (some (.builtin "object.__init__"))
  kp : PySem.W.keepIn K (.ref C) = true
def tMakeO (C : Addr) : TE := fun σ H Q => ∀ x dx, H x = none → H dx = none → dx ≠ x → Q (.ref x) (upd (upd H dx (.own x)) x (.ins C dx []))
theorem run_makeO {X : Cx} {C : Addr} {pins : List (Addr × Obj)} {σ : L2.St} {H : Hp} {s : Shared} {Q : VK} (M : MkO X.K C) (I : Inv X pins σ H s)
    (h : ∀ x dx, H x = none → H dx = none → dx ≠ x → Q (.ref x) (upd (upd H dx (.own x)) x (.ins C dx []))) :
    wpAny (model X.prog X.w) X.A (call (.ref C) []) (EP X pins σ Q) X.xe s := by
  have hq := h (s.heap.objs.size + 1) s.heap.objs.size (I.hok.fresh (Nat.le_succ _)) (I.hok.fresh (Nat.le_refl _)) (Nat.ne_of_lt (Nat.lt_succ_self _))
  have I2 := Inv.made (C := C) I
  refine wpAny_call (make_map0 I.kIn M.makes M.init (fun self => PySem.W.Looks.of_pure (PySem.W.oi_bind self)) ?_)
  have Y := PySem.W.makes_of (M := model X.prog X.w) I.kIn M.makes
  have e2 : ((s.heap.push PySem.W.emptyDict).push (PySem.W.instObj C s.heap.objs.size)).get? (s.heap.objs.size + 1) = some (PySem.W.instObj C s.heap.objs.size) := by
    have := Heap.get?_push_size (s.heap.push PySem.W.emptyDict) (o := PySem.W.instObj C s.heap.objs.size) rfl
    rwa [Heap.size_push] at this
  have t1 : PySem.W.Looks (model X.prog X.w) ((s.heap.push PySem.W.emptyDict).push (PySem.W.instObj C s.heap.objs.size)) (typeOf (.ref (s.heap.objs.size + 1))) (.ref C) := (PySem.W.Looks.ld e2).andThen .now
  have t2 : PySem.W.Looks (model X.prog X.w) ((s.heap.push PySem.W.emptyDict).push (PySem.W.instObj C s.heap.objs.size)) (isInstance (.ref (s.heap.objs.size + 1)) (.type "object")) true := t1.andThen (Y.top.keeps fun b o e => Heap.get?_push_of_some _ (Heap.get?_push_of_some _ e))
  refine codeAny_call_builtin PySem.W.oi_plain PySem.W.entry_oi (@PySem.W.check_slot (model X.prog X.w) _ _ _ "object.__init__" "object" "__init__" (.ref (s.heap.objs.size + 1)) [] [] _ PySem.W.oi_kind PySem.W.oi_split t2 (PySem.W.oi_args (.ref (s.heap.objs.size + 1))) ?_)
  rw [PySem.W.oi_run]
  exact wpAny_pure (And.intro rfl ⟨V.ref (s.heap.objs.size + 1), _, I2, rfl, hq⟩)
theorem pe_makeO {X : Cx} {C : Addr} {x : Str} {p pos : Pos} (M : MkO X.K C) (hg : Gl X x) (hm : X.mg x = some (.ref C)) (hdb : (x == ("__debug__" : Str)) = false := by decide) : PE X (.Call (.Name x p) [] [] pos) (tMakeO C) := by
  refine ⟨fun pins s σ H Q I h => ?_⟩
  refine wpAny_Call_Name_kw (ld_glob I hg hm ?_ hdb)
  exact PySem.W.callWith_K0 I.kIn M.kp (run_makeO M I h)

/-! ### further: what is never come to, defs as values, several targets, objects -/
def fNev : FE := fun _ _ => none
section
variable {K : Kx} {X : Cx} {e o : Expr} {es : List Expr} {fe fo : FE} {fa : FA} {pos p apos : Pos} {x : Str} {n : Nat}
theorem se_never : SE K X e fNev := fun _ _ => ⟨fun _ _ _ _ _ _ ⟨_, _, _, _, _, _, _, ev, _⟩ => by cases ev⟩
def tNev : FT := fun _ _ => none
def iNev : FI := fun _ _ => none
theorem si_never {tg : Expr} : SI K X tg e iNev := fun _ _ => ⟨fun _ _ _ _ _ _ ⟨_, _, _, _, _, _, _, ev, _⟩ => by cases ev⟩
theorem se_fn (hg : Gl X x) (hm : X.mg x = some (.ref (K.Γ n))) (hd : (x == ("__debug__" : Str)) = false := by decide) : SE K X (.Name x pos) (fC (.fn n)) :=
  se_c (pe_glob (v := .ref (K.Γ n)) hg hm rfl hd) fun _ _ => .fn n
/-- a call of what a slot holds -/
def fnOf2 (tbl : Nat → Option (List D → Option D)) (i : Nat) (ρ : Rho) : Option (List D → Option D) := match ρ[i]? with
  | some (some (.fn n)) => tbl n
  | _ => none
def fCV (tbl : Nat → Option (List D → Option D)) (i : Nat) (fa : FA) : FE := fun ρ M => (fnOf2 tbl i ρ).bind fun m => fCP m fa ρ M
theorem se_callV {tbl : Nat → Option (List D → Option D)} {i k np : Nat} (hm : ∀ n m, tbl n = some m → ∀ ds d, m ds = some d → D.los 0 ds = true ∧ ds.length = np)
    (F : X.K = K.K → ∀ n m, tbl n = some m → ∃ fd ps, FnOk X.prog X.w X.K X.mg X.base CX0 k (K.Γ n) fd ps (spP K np m) ∧ PySem.W.keepIn X.K (.ref (K.Γ n)) = true ∧ Binds X.K fd ps [])
    (hr : Room k X.A) (hN : X.N[i]? = some x) (hv : Vis X.env.scope x) (ha : SA K X (e :: es) fa)
    (hdb : (x == ("__debug__" : Str)) = false := by decide) (hcd : (x == ("__classdict__" : Str)) = false := by decide)
    (he : starEach (e :: es) X.env = (false, eval e X.env) :: starEach es X.env := by rfl) (hpl : (backTo pos (starEach es X.env)).any (·.1) = false := by rfl) : SE K X (.Call (.Name x p) (e :: es) [] pos) (fCV tbl i fa) :=
  fun hK hc => ⟨fun pins s σ H Q I h => by
    obtain ⟨as, ρ, M, d, M', sr, mr, ev, k⟩ := h
    unfold fCV at ev
    obtain ⟨m, e1, ev⟩ := Option.bind_eq_some_iff.mp ev
    unfold fnOf2 at e1
    split at e1
    · rename_i n hn
      obtain ⟨v, h1, h2⟩ := sr.get hn
      cases h2
      obtain ⟨fd, ps, F1, hk, hb⟩ := F hK n m e1
      exact (pe_callL (i := i) F1 hr hN hv hk hb .nil pass0 (ha hK hc) hdb hcd he hpl).run pins s σ H Q I ⟨h1, rE.callP (hm n m e1) ⟨as, ρ, M, d, M', sr, mr, ev, k⟩⟩
    · cases e1⟩
/-! several targets -/
def sAs2 (f : FE) (g1 g2 : FG) : FS := fun ρ M => (f ρ M).bind fun p => (g1 p.1 ρ).bind fun ρ1 => (g2 p.1 ρ1).map fun ρ2 => (.nx ρ2, p.2)
def sAs4 (f : FE) (g1 g2 g3 g4 : FG) : FS := fun ρ M => (f ρ M).bind fun p => (g1 p.1 ρ).bind fun ρ1 => (g2 p.1 ρ1).bind fun ρ2 => (g3 p.1 ρ2).bind fun ρ3 => (g4 p.1 ρ3).map fun ρ4 => (.nx ρ4, p.2)
end
section
variable {K : Kx} {X : Cx} {e : Expr} {fe : FE} {pos : Pos}
theorem run_tg {vs : List Nat} {tg : Expr} {g : FG} (hg : PG X tg (rG K vs g)) {pins : List (Addr × Obj)} {s : Shared} {σ : L2.St} {H : Hp} {as : List Addr} {ρ ρ' : Rho} {v : V} {u : Value} {d : D} (I : Inv X pins σ H s) (ru : RelV v u) (sr : SR K as H σ ρ) (rv : VR K as H v d) (eg : g d ρ = some ρ')
    {Q : Unit → Shared → Prop} (q : ∀ σ' s', Inv X pins σ' H s' → SR K as H σ' ρ' → Q () s') : wpAny (model X.prog X.w) X.A (assign tg X.env u) Q X.xe s :=
  thn (hg.run pins s σ H v u (fun σ' H' => H' = H ∧ SR K as H σ' ρ') I ru ⟨as, ρ, d, ρ', sr, rv, eg, fun σ' s' _ => ⟨rfl, s'⟩⟩) fun _ s' ⟨σ', H', I', q'⟩ => by
    obtain ⟨rfl, q'⟩ := q'
    exact q σ' s' I' q'
/-- a fourth target, as Assign_three has three -/
theorem wpAny_Assign_four {P : Program} {w : World} {A : Around} {E : Value → Shared → Prop} {s : Shared} {t1 t2 t3 t4 e : Expr} {pos : Pos} {env : Env} {Q : Flow → Shared → Prop}
    (h : wpAny (model P w) A (eval e env) (fun v s1 => wpAny (model P w) A (assign t1 env v) (fun _ s2 => wpAny (model P w) A (assign t2 env v) (fun _ s3 => wpAny (model P w) A (assign t3 env v) (fun _ s4 => wpAny (model P w) A (assign t4 env v) (fun _ s5 => Q .next s5) E s4) E s3) E s2) E s1) E s)
    (ha : (assignEach [t1, t2, t3, t4] env).map (·.2) = [assign t1 env, assign t2 env, assign t3 env, assign t4 env]) (hw : swappedStores [t1, t2, t3, t4] e env = pure none) : wpAny (model P w) A (exec (.Assign [t1, t2, t3, t4] e pos) env) Q E s := by
  refine wpAny_Assign_stores (wpAny_mono h (fun v s₁ h₁ => ?_) fun _ _ x => x) rfl hw
  rw [ha]
  exact wpAny_bind (wpAny_holding (wpAny_mono h₁ (fun _ s₂ h₂ => wpAny_bind (wpAny_holding (wpAny_mono h₂ (fun _ s₃ h₃ => wpAny_bind (wpAny_holding h₃)) fun _ _ x => x))) fun _ _ x => x))
theorem ss_as2 {v1 v2 : List Nat} {t1 t2 : Expr} {g1 g2 : FG} (he : SE K X e fe) (h1 : SG K X v1 t1 g1) (h2 : SG K X v2 t2 g2) (ha : (assignEach [t1, t2] X.env).map (·.2) = [assign t1 X.env, assign t2 X.env] := by rfl) (hw : swappedStores [t1, t2] e X.env = pure none := by rfl) :
    SS K X (.Assign [t1, t2] e pos) (sAs2 fe g1 g2) := fun hK hc => ⟨fun pins s σ H D I h => by
  obtain ⟨as, ρ, M, fl, M', sr, mr, ev, k⟩ := h
  unfold sAs2 at ev
  obtain ⟨⟨d, M1⟩, e1, ev⟩ := Option.bind_eq_some_iff.mp ev
  obtain ⟨ρ1, e2, ev⟩ := Option.bind_eq_some_iff.mp ev
  obtain ⟨ρ2, e3, ev⟩ := Option.map_eq_some_iff.mp ev
  cases ev
  refine wpAny_Assign_two (thn ((he hK hc).run pins s σ H (fun v H1 => ∃ as1, Gr as H as1 H1 ∧ MR K as1 H1 M1 ∧ VR K as1 H1 v d) I ⟨as, ρ, M, d, M1, sr, mr, e1, fun v as1 H1 g1 m1 r1 => ⟨as1, g1, m1, r1⟩⟩) fun u s1 ⟨v, H1, I1, ru, as1, gr, m1, r1⟩ => ?_) ha hw
  refine run_tg (h1 hK hc) I1 ru (sr.gr gr) r1 e2 fun σ2 s2 I2 sr2 => ?_
  exact run_tg (h2 hK hc) I2 ru sr2 r1 e3 fun σ3 s3 I3 sr3 => ⟨σ3, H1, I3, k σ3 as1 H1 gr m1 sr3⟩⟩
theorem ss_as4 {v1 v2 v3 v4 : List Nat} {t1 t2 t3 t4 : Expr} {g1 g2 g3 g4 : FG} (he : SE K X e fe) (h1 : SG K X v1 t1 g1) (h2 : SG K X v2 t2 g2) (h3 : SG K X v3 t3 g3) (h4 : SG K X v4 t4 g4) (ha : (assignEach [t1, t2, t3, t4] X.env).map (·.2) = [assign t1 X.env, assign t2 X.env, assign t3 X.env, assign t4 X.env] := by rfl) (hw : swappedStores [t1, t2, t3, t4] e X.env = pure none := by rfl) :
    SS K X (.Assign [t1, t2, t3, t4] e pos) (sAs4 fe g1 g2 g3 g4) := fun hK hc => ⟨fun pins s σ H D I h => by
  obtain ⟨as, ρ, M, fl, M', sr, mr, ev, k⟩ := h
  unfold sAs4 at ev
  obtain ⟨⟨d, M1⟩, e1, ev⟩ := Option.bind_eq_some_iff.mp ev
  obtain ⟨ρ1, e2, ev⟩ := Option.bind_eq_some_iff.mp ev
  obtain ⟨ρ2, e3, ev⟩ := Option.bind_eq_some_iff.mp ev
  obtain ⟨ρ3, e4, ev⟩ := Option.bind_eq_some_iff.mp ev
  obtain ⟨ρ4, e5, ev⟩ := Option.map_eq_some_iff.mp ev
  cases ev
  refine wpAny_Assign_four (thn ((he hK hc).run pins s σ H (fun v H1 => ∃ as1, Gr as H as1 H1 ∧ MR K as1 H1 M1 ∧ VR K as1 H1 v d) I ⟨as, ρ, M, d, M1, sr, mr, e1, fun v as1 H1 g1 m1 r1 => ⟨as1, g1, m1, r1⟩⟩) fun u s1 ⟨v, H1, I1, ru, as1, gr, m1, r1⟩ => ?_) ha hw
  refine run_tg (h1 hK hc) I1 ru (sr.gr gr) r1 e2 fun σ2 s2 I2 sr2 => ?_
  refine run_tg (h2 hK hc) I2 ru sr2 r1 e3 fun σ3 s3 I3 sr3 => ?_
  refine run_tg (h3 hK hc) I3 ru sr3 r1 e4 fun σ4 s4 I4 sr4 => ?_
  exact run_tg (h4 hK hc) I4 ru sr4 r1 e5 fun σ5 s5 I5 sr5 => ⟨σ5, H1, I5, k σ5 as1 H1 gr m1 sr5⟩⟩
end
/-! ### objects -/
def insAt (M : Mem) (i : Nat) : Option (Nat × List (Str × D)) := match M[i]? with
  | some (.ins c fs) => some (c, fs)
  | _ => none
def gFld (cs : Nat → Bool) (f : Str) : G1
  | .rf i, M => (insAt M i).bind fun p => if cs p.1 = true then (p.2.lookup f).map fun d => (d, M) else none
  | _, _ => none
def putD (f : Str) (v : D) : List (Str × D) → List (Str × D)
  | [] => [(f, v)]
  | (g, x) :: r => if g = f then (g, v) :: r else (g, x) :: putD f v r
def setF (cs : Nat → Bool) (f : Str) (o d : D) (M : Mem) : Option Mem := match o with
  | .rf i => (insAt M i).bind fun p => if cs p.1 = true ∧ p.2.length < 500 then some (M.set i (.ins p.1 (putD f d p.2))) else none
  | _ => none
def sFldD (cs : Nat → Bool) (f : Str) (fe fo : FE) : FS := fun ρ M => (fe ρ M).bind fun p => (fo ρ p.2).bind fun q => (setF cs f q.1 p.1 q.2).map fun M' => (.nx ρ, M')
def fMk (c : Nat) (init : GL) (fa : FA) : FE := fun ρ M => (fa ρ M).bind fun p => (init (.rf p.2.length :: p.1) (p.2 ++ [.ins c []])).bind fun r => match r.1 with
  | .non => some (.rf p.2.length, r.2)
  | _ => none
def fMk0 (c : Nat) : FE := fun _ M => some (.rf M.length, M ++ [.ins c []])
/-- o.m(..), by the class of o -/
def metOf (tbl : Nat → Option GL) (m : Str) (o : D) (M : Mem) : Option GL := match o with
  | .rf i => (insAt M i).bind fun p => if p.2.lookup m = none then tbl p.1 else none
  | _ => none
open Classical in
noncomputable def fMt (tbl : Nat → Option GL) (m : Str) (fo : FE) (fa : FA) : FE := fun ρ M => (fo ρ M).bind fun o => (metOf tbl m o.1 o.2).bind fun g => (fa ρ o.2).bind fun p => g (o.1 :: p.1) p.2
section
variable {K : Kx} {as : List Addr} {H : Hp} {M : Mem}
theorem insAt_rel (m : MR K as H M) {i : Nat} {a : Addr} {p : Nat × List (Str × D)} (h : as[i]? = some a) (e : insAt M i = some p) : ∃ dx fs, H a = some (.ins (K.Γ p.1) dx fs) ∧ fs.map (·.1) = p.2.map (·.1) ∧ VRs K as H (fs.map (·.2)) (p.2.map (·.2)) := by
  unfold insAt at e
  split at e
  · rename_i c fs hc
    cases e
    exact m.cell i a _ h hc
  · cases e
theorem fl_lookup {f : Str} {d : D} : ∀ {fs : List (Str × V)} {ds : List (Str × D)}, fs.map (·.1) = ds.map (·.1) → VRs K as H (fs.map (·.2)) (ds.map (·.2)) → ds.lookup f = some d → ∃ v, fs.lookup f = some v ∧ VR K as H v d
  | [], [], _, _, e => by cases e
  | [], _ :: _, h, _, _ => by cases h
  | _ :: _, [], h, _, _ => by cases h
  | (g, x) :: fs, (g', y) :: ds, h, r, e => by
    simp only [List.map_cons, List.cons.injEq] at h
    obtain ⟨rfl, h⟩ := h
    cases r with
    | cons r rs =>
      simp only [List.lookup_cons] at e ⊢
      split at e
      · cases e
        exact ⟨x, by simp [*], r⟩
      · obtain ⟨v, e1, r1⟩ := fl_lookup h rs e
        exact ⟨v, by simp [*], r1⟩
theorem fl_none {f : Str} : ∀ {fs : List (Str × V)} {ds : List (Str × D)}, fs.map (·.1) = ds.map (·.1) → ds.lookup f = none → fs.lookup f = none
  | [], [], _, _ => rfl
  | [], _ :: _, h, _ => by cases h
  | _ :: _, [], h, _ => by cases h
  | (g, x) :: fs, (g', y) :: ds, h, e => by
    simp only [List.map_cons, List.cons.injEq] at h
    obtain ⟨rfl, h⟩ := h
    simp only [List.lookup_cons] at e ⊢
    split at e
    · cases e
    · simp [*, fl_none h e]
theorem fl_put {f : Str} {v : V} {d : D} (r : VR K as H v d) : ∀ {fs : List (Str × V)} {ds : List (Str × D)}, fs.map (·.1) = ds.map (·.1) → VRs K as H (fs.map (·.2)) (ds.map (·.2)) → (putF f v fs).map (·.1) = (putD f d ds).map (·.1) ∧ VRs K as H ((putF f v fs).map (·.2)) ((putD f d ds).map (·.2))
  | [], [], _, _ => ⟨rfl, .cons r .nil⟩
  | [], _ :: _, h, _ => by cases h
  | _ :: _, [], h, _ => by cases h
  | (g, x) :: fs, (g', y) :: ds, h, rs => by
    simp only [List.map_cons, List.cons.injEq] at h
    obtain ⟨rfl, h⟩ := h
    cases rs with
    | cons r1 rs =>
      unfold putF putD
      by_cases hg : g = f
      · rw [if_pos hg, if_pos hg]
        exact ⟨by simp [h], .cons r rs⟩
      · rw [if_neg hg, if_neg hg]
        obtain ⟨h1, h2⟩ := fl_put (f := f) r h rs
        exact ⟨by simp [h1], .cons r1 h2⟩
end
section
variable {K : Kx} {X : Cx} {e o : Expr} {es : List Expr} {fe fo : FE} {fa : FA} {pos p apos pos' : Pos} {x f : Str}
theorem se_fld {cs : Nat → Bool} (hcs : X.K = K.K → ∀ c, cs c = true → Cls X.K (K.Γ c) ∧ NoAttr X.K (K.Γ c) f) (he : SE K X e fe) (hb : attributeBase e f X.env (eval e X.env) = eval e X.env) : SE K X (.Attribute e f pos) (fU (gFld cs f) fe) :=
  fun hK hc => pe_mono (pe_fld (he hK hc) hb) fun σ H Q ⟨as, ρ, M, d, M', sr, mr, ev, k⟩ => by
    unfold fU at ev
    obtain ⟨⟨y, M1⟩, e1, ev⟩ := Option.bind_eq_some_iff.mp ev
    refine ⟨as, ρ, M, y, M1, sr, mr, e1, fun v as1 H1 g1 m1 r1 => ?_⟩
    cases r1 with
    | @rf i a h =>
      simp only [gFld] at ev
      obtain ⟨q, e2, ev⟩ := Option.bind_eq_some_iff.mp ev
      split at ev
      · rename_i hq
        obtain ⟨d', e3, ev⟩ := Option.map_eq_some_iff.mp ev
        cases ev
        obtain ⟨dx, fs, h1, h2, h3⟩ := insAt_rel m1 h e2
        obtain ⟨v, e4, r4⟩ := fl_lookup h2 h3 e3
        exact ⟨a, _, dx, fs, v, rfl, h1, (hcs hK _ hq).1, (hcs hK _ hq).2, e4, k v as1 H1 g1 m1 r4⟩
      · cases ev
    | _ => cases ev
theorem ss_fld {cs : Nat → Bool} (hcs : X.K = K.K → ∀ c, cs c = true → Cls X.K (K.Γ c) ∧ NoAttr X.K (K.Γ c) f) (ho : SE K X o fo) (he : SE K X e fe) (hs : swapsWith e (some (.Attribute o f pos')) pos.line X.env = pure false) : SS K X (.Assign [.Attribute o f pos'] e pos) (sFldD cs f fe fo) :=
  fun hK hc => ps_mono (ps_fld (ho hK hc) (he hK hc) hs) fun D σ H ⟨as, ρ, M, fl, M', sr, mr, ev, k⟩ => by
    unfold sFldD at ev
    obtain ⟨⟨d, M1⟩, e1, ev⟩ := Option.bind_eq_some_iff.mp ev
    obtain ⟨⟨od, M2⟩, e2, ev⟩ := Option.bind_eq_some_iff.mp ev
    obtain ⟨M3, e3, ev⟩ := Option.map_eq_some_iff.mp ev
    cases ev
    refine ⟨as, ρ, M, d, M1, sr, mr, e1, fun v as1 H1 g1 m1 r1 => ⟨as1, ρ, M1, od, M2, sr.gr g1, m1, e2, fun u as2 H2 g2 m2 r2 => ?_⟩⟩
    cases r2 with
    | @rf i a h =>
      simp only [setF] at e3
      obtain ⟨q, e4, e3⟩ := Option.bind_eq_some_iff.mp e3
      split at e3
      · rename_i hq
        cases e3
        obtain ⟨dx, fs, h1, h2, h3⟩ := insAt_rel m2 h e4
        have hl : fs.length = q.2.length := by
          have := congrArg List.length h2
          simpa using this
        obtain ⟨p1, p2⟩ := fl_put (f := f) (r1.gr g2) h2 h3
        have gw : Gr as2 H2 as2 (upd H2 a (.ins (K.Γ q.1) dx (putF f v fs))) := Gr.write m2 (List.mem_of_getElem? h)
        refine ⟨a, _, dx, fs, rfl, h1, (hcs hK _ hq.1).1, (hcs hK _ hq.1).2, by rw [hl]; have := hq.2; omega, ?_⟩
        exact k σ as2 _ ((g1.trans g2).trans gw) (m2.write h ⟨dx, _, upd_same, p1, p2.gr gw⟩) (((sr.gr g1).gr g2).gr gw)
      · cases e3
    | _ => cases e3
theorem made {c : Nat} {as : List Addr} {H : Hp} {M : Mem} (m : MR K as H M) {y dx : Addr} (hy : H y = none) (hd : H dx = none) (ne : dx ≠ y) :
    Gr as H (as ++ [y]) (upd (upd H dx (.own y)) y (.ins (K.Γ c) dx [])) ∧ MR K (as ++ [y]) (upd (upd H dx (.own y)) y (.ins (K.Γ c) dx [])) (M ++ [.ins c []]) := by
  have hy' : upd H dx (.own y) y = none := by rw [upd_ne (fun z => ne z.symm)]; exact hy
  exact ⟨(Gr.new hd).trans (Gr.alloc hy'), (m.new hd).alloc hy' ⟨dx, [], upd_same, rfl, .nil⟩⟩
theorem se_mk {c k n : Nat} {fi : Addr} {fd : FuncData} {ps : List Str} {m : GL} (hm : ∀ ds M d, m ds M = some d → ds.length = n) (Mk1 : X.K = K.K → Mk X.K (K.Γ c) fi) (F : X.K = K.K → FnOk X.prog X.w X.K X.mg X.base CX0 k fi fd ps (spM K n m)) (hr : Room (k + 1) X.A) (hg : Gl X x) (hmg : X.mg x = some (.ref (K.Γ c))) (hb : X.K = K.K → Binds X.K fd ps [])
    (ha : SA K X (e :: es) fa) (hdb : (x == ("__debug__" : Str)) = false := by decide) (he : starEach (e :: es) X.env = (false, eval e X.env) :: starEach es X.env := by rfl) (hpl : (backTo pos (starEach es X.env)).any (·.1) = false := by rfl) :
    SE K X (.Call (.Name x p) (e :: es) [] pos) (fMk c m fa) := SE.imp (fun hK hc => pe_make (Mk1 hK) (F hK) hr hg hmg (hb hK) .nil pass0 (ha hK hc) hdb he hpl) fun σ H Q ⟨as, ρ, M, d, M', sr, mr, ev, k⟩ => by
  unfold fMk at ev
  obtain ⟨⟨ds, M1⟩, e1, ev⟩ := Option.bind_eq_some_iff.mp ev
  obtain ⟨⟨r, M2⟩, e2, ev⟩ := Option.bind_eq_some_iff.mp ev
  refine ⟨as, ρ, M, ds, M1, sr, mr, e1, fun vs as1 H1 g1 m1 r1 y dx hy hd ne => ?_⟩
  obtain ⟨g2, m2⟩ := made (c := c) m1 hy hd ne
  rw [List.append_nil]
  refine ⟨as1 ++ [y], M1 ++ [.ins c []], .rf M1.length :: ds, r, M2, ?_, m2, .cons (.rf (by rw [← m1.len]; simp)) (r1.gr g2), e2, fun v as3 H3 g3 m3 r3 => ?_⟩
  · have := hm _ _ _ e2
    rw [List.length_cons] at this ⊢
    rw [r1.len]
    exact this
  · cases r with
    | non =>
      cases r3
      cases ev
      exact ⟨rfl, k _ as3 H3 ((g1.trans g2).trans g3) m3 (VR.rf (g3.gv.get (by rw [← m1.len]; simp)))⟩
    | _ => cases ev
theorem se_mk0 {c : Nat} (Mk1 : X.K = K.K → MkO X.K (K.Γ c)) (hg : Gl X x) (hmg : X.mg x = some (.ref (K.Γ c))) (hdb : (x == ("__debug__" : Str)) = false := by decide) : SE K X (.Call (.Name x p) [] [] pos) (fMk0 c) := SE.imp (fun hK hc => pe_makeO (Mk1 hK) hg hmg hdb) fun σ H Q ⟨as, ρ, M, d, M', sr, mr, ev, k⟩ => by
  cases ev
  intro y dx hy hd ne
  obtain ⟨g2, m2⟩ := made (c := c) mr hy hd ne
  exact k _ _ _ g2 m2 (.rf (by rw [← mr.len]; simp))
theorem se_mt {tbl : Nat → Option GL} {m : Str} {n : Nat} {pl : Sem Bool} (hm : ∀ c g, tbl c = some g → ∀ ds M d, g ds M = some d → ds.length = n + 1)
    (F : X.K = K.K → ∀ c g, tbl c = some g → Cls X.K (K.Γ c) ∧ ∃ k f fd ps, Meth X.K (K.Γ c) m f ∧ FnOk X.prog X.w X.K X.mg X.base CX0 k f fd ps (spM K (n + 1) g) ∧ Room k X.A ∧ Binds X.K fd ps []) (ho : SE K X o fo) (ha : SA K X (e :: es) fa)
    (hst : starEach (e :: es) X.env = (false, eval e X.env) :: starEach es X.env := by rfl) (hpl : (backTo pos (starEach es X.env)).any (·.1) = false := by rfl)
    (ht : eval (.Call (.Attribute o m apos) (e :: es) [] pos) X.env = (do
      let ov ← eval o X.env
      standAt apos.atName
      let (f, first) ← holding [ov] (getMethod ov m pl)
      callWith pos f first (backTo pos (starEach (e :: es) X.env)) (backToKw pos (keywordEach [] X.env))) := by rfl) :
    SE K X (.Call (.Attribute o m apos) (e :: es) [] pos) (fMt tbl m fo fa) := fun hK hc => ⟨fun pins s σ H Q I h => by
  obtain ⟨as, ρ, M, d, M', sr, mr, ev, k⟩ := h
  unfold fMt at ev
  obtain ⟨⟨od, M1⟩, e1, ev⟩ := Option.bind_eq_some_iff.mp ev
  obtain ⟨g, e2, ev⟩ := Option.bind_eq_some_iff.mp ev
  obtain ⟨⟨ds, M2⟩, e3, ev⟩ := Option.bind_eq_some_iff.mp ev
  cases od with
  | rf i =>
    simp only [metOf] at e2
    obtain ⟨q, e4, e2⟩ := Option.bind_eq_some_iff.mp e2
    split at e2
    · rename_i hl
      obtain ⟨c1, kk, f1, fd, ps, hM, F1, hr, hb⟩ := F hK q.1 g e2
      refine (pe_meth (pl := pl) (ho hK hc) c1 hM F1 hr hb .nil pass0 (ha hK hc) hst hpl ht).run pins s σ H Q I ⟨as, ρ, M, _, M1, sr, mr, e1, fun v as1 H1 g1 m1 r1 => ?_⟩
      cases r1 with
      | @rf _ a h =>
        obtain ⟨dx, fs, h1, h2, h3⟩ := insAt_rel m1 h e4
        refine ⟨a, dx, fs, rfl, h1, fl_none h2 hl, as1, ρ, M1, ds, M2, sr.gr g1, m1, e3, fun vs as2 H2 g2 m2 r2 => ?_⟩
        show spM K (n + 1) g (V.ref a :: (vs ++ [])) H2 Q E0
        rw [List.append_nil]
        refine ⟨as2, M2, _, d, M', ?_, m2, .cons (.rf (g2.gv.get h)) r2, ev, fun w as3 H3 g3 m3 r3 => k w as3 H3 ((g1.trans g2).trans g3) m3 r3⟩
        have := hm _ _ e2 _ _ _ ev
        rw [List.length_cons] at this ⊢
        rw [r2.len]
        exact this
    · cases e2
  | _ => cases e2⟩
theorem se_mt0 {tbl : Nat → Option GL} {m : Str} {pl : Sem Bool} (hm : ∀ c g, tbl c = some g → ∀ ds M d, g ds M = some d → ds.length = 1)
    (F : X.K = K.K → ∀ c g, tbl c = some g → Cls X.K (K.Γ c) ∧ ∃ k f fd ps, Meth X.K (K.Γ c) m f ∧ FnOk X.prog X.w X.K X.mg X.base CX0 k f fd ps (spM K 1 g) ∧ Room k X.A ∧ Binds X.K fd ps []) (ho : SE K X o fo)
    (ht : eval (.Call (.Attribute o m apos) [] [] pos) X.env = (do
      let ov ← eval o X.env
      standAt apos.atName
      let (f, first) ← holding [ov] (getMethod ov m pl)
      callWith pos f first (backTo pos (starEach [] X.env)) (backToKw pos (keywordEach [] X.env))) := by rfl) :
    SE K X (.Call (.Attribute o m apos) [] [] pos) (fMt tbl m fo fNil) := fun hK hc => ⟨fun pins s σ H Q I h => by
  obtain ⟨as, ρ, M, d, M', sr, mr, ev, k⟩ := h
  unfold fMt at ev
  obtain ⟨⟨od, M1⟩, e1, ev⟩ := Option.bind_eq_some_iff.mp ev
  obtain ⟨g, e2, ev⟩ := Option.bind_eq_some_iff.mp ev
  obtain ⟨⟨ds, M2⟩, e3, ev⟩ := Option.bind_eq_some_iff.mp ev
  cases e3
  cases od with
  | rf i =>
    simp only [metOf] at e2
    obtain ⟨q, e4, e2⟩ := Option.bind_eq_some_iff.mp e2
    split at e2
    · rename_i hl
      obtain ⟨c1, kk, f1, fd, ps, hM, F1, hr, hb⟩ := F hK q.1 g e2
      refine (pe_meth0 (pl := pl) (ho hK hc) c1 hM F1 hr hb .nil pass0 ht).run pins s σ H Q I ⟨as, ρ, M, _, M1, sr, mr, e1, fun v as1 H1 g1 m1 r1 => ?_⟩
      cases r1 with
      | @rf _ a h =>
        obtain ⟨dx, fs, h1, h2, h3⟩ := insAt_rel m1 h e4
        refine ⟨a, dx, fs, rfl, h1, fl_none h2 hl, ?_⟩
        exact ⟨as1, M1, _, d, M', rfl, m1, .cons (.rf h) .nil, ev, fun w as3 H3 g3 m3 r3 => k w as3 H3 (g1.trans g3) m3 r3⟩
    · cases e2
  | _ => cases e2⟩
end
/-! a, b, c = x, y, z -/
def tPar3 (i j l : Nat) (ta : TA) : TS := fun D σ H => ta σ H fun vs H1 => ∃ v w u, vs = [v, w, u] ∧ D.nx (((σ.set i (some v)).set j (some w)).set l (some u)) H1
section
variable {X : Cx}
theorem ps_par3 {i j l : Nat} {x y z : Str} {a b c : Expr} {ta : TA} {px py pz pt : Pos} {kt k2 pt2} {pos : Pos} (hc : X.calm = true) (hN : X.N.Nodup) (hi : X.N[i]? = some x) (hj : X.N[j]? = some y) (hl : X.N[l]? = some z) (hij : i ≠ j) (hil : i ≠ l) (hjl : j ≠ l)
    (hx : X.env.scope.names.lookup x = some .local) (hy : X.env.scope.names.lookup y = some .local) (hz : X.env.scope.names.lookup z = some .local) (ha : PA X [a, b, c] ta)
    (hw : swappedStores [.Tuple [.Name x px, .Name y py, .Name z pz] kt pt] (.Tuple [a, b, c] k2 pt2) X.env = pure (some [x, y, z]))
    (hs : swapsWithSole [.Tuple [.Name x px, .Name y py, .Name z pz] kt pt] (.Tuple [a, b, c] k2 pt2) pos.line X.env = pure false := by rfl) :
    PS X (.Assign [.Tuple [.Name x px, .Name y py, .Name z pz] kt pt] (.Tuple [a, b, c] k2 pt2) pos) (tPar3 i j l ta) := by
  refine ⟨fun pins s σ H D I h => ?_⟩
  rw [exec_Assign_arm]
  refine wpAny_bind (wpAny_standAt ?_)
  rw [hs]
  refine wpAny_bind (wpAny_pure ?_)
  rw [if_neg (by decide)]
  refine wpAny_bind (Tuple_ (thn (ha.run _ pins s σ H _ I h) fun us s1 ⟨vs, H1, I1, r1, q1⟩ => ?_))
  obtain ⟨v, w, u, e1, q1⟩ := q1
  subst e1
  obtain ⟨u1, u2, u3, rfl, rv, rw', ru⟩ : ∃ u1 u2 u3, us = [u1, u2, u3] ∧ RelV v u1 ∧ RelV w u2 ∧ RelV u u3 := by
    cases r1 with
    | cons p q =>
      cases q with
      | cons p' q' =>
        cases q' with
        | cons p'' q'' =>
          cases q''
          exact ⟨_, _, _, rfl, p, p', p''⟩
  refine wpAny_newObj_type ?_ (by show 3 ≤ sizeLine; decide)
  have I2 : Inv X pins σ H1 { s1 with heap := s1.heap.push { cls := .type "tuple", data := .seq [u1, u2, u3].toArray } } := I1.kept (t' := s1.toks) fun b o e => Heap.get?_push_of_some _ e
  rw [hw]
  refine wpAny_bind (wpAny_pure ?_)
  show wpAny (model X.prog X.w) X.A (do rule "assign.swapped-stores"; let items ← unpackItems (.ref s1.heap.objs.size) 3 none; assignInOrder [fun v => bindName X.env z v, fun v => bindName X.env y v, fun v => bindName X.env x v] items.reverse; pure Flow.next) _ _ _
  refine wpAny_bind (wpAny_rule (wpAny_bind (unpackItems_tuple (items := #[u1, u2, u3]) (I.ok.hd hc) (IsTup.new s1.heap _) fun h' hx' => ?_)))
  have I3 := I2.kept (h' := h') (t' := s1.toks) fun b o e => hx' b o (Nat.ne_of_lt (Heap.lt_size e)) e
  show wpAny _ _ (assignInOrder [fun v => bindName X.env z v, fun v => bindName X.env y v, fun v => bindName X.env x v] [u3, u2, u1] >>= fun _ => pure Flow.next) _ _ _
  refine wpAny_bind (assignInOrder_cons (wpAny_bindName (store_ok I3 hN hl (.inl hz) ru (fun s2 I4 => ?_) (.inr hz))))
  refine assignInOrder_cons (wpAny_bindName (store_ok I4 hN hj (.inl hy) rw' (fun s3 I5 => ?_) (.inr hy)))
  refine assignInOrder_cons (wpAny_bindName (store_ok I5 hN hi (.inl hx) rv (fun s4 I6 => assignInOrder_nil (wpAny_pure ?_)) (.inr hx)))
  rw [List.set_comm _ _ (Ne.symm hij), List.set_comm _ _ (Ne.symm hil), List.set_comm _ _ (Ne.symm hjl)] at I6
  exact ⟨_, H1, I6, q1⟩
variable {K : Kx}
def sPar3 (i j l : Nat) (fa : FA) : FS := fun ρ M => (fa ρ M).bind fun p => match p.1 with
  | [d, e, f] => some (.nx (((ρ.set i (some d)).set j (some e)).set l (some f)), p.2)
  | _ => none
theorem ss_par3 {i j l : Nat} {x y z : Str} {a b c : Expr} {fa : FA} {px py pz pt : Pos} {kt k2 pt2} {pos : Pos} (hN : X.N.Nodup) (hi : X.N[i]? = some x) (hj : X.N[j]? = some y) (hl : X.N[l]? = some z) (hij : i ≠ j) (hil : i ≠ l) (hjl : j ≠ l)
    (hx : X.env.scope.names.lookup x = some .local) (hy : X.env.scope.names.lookup y = some .local) (hz : X.env.scope.names.lookup z = some .local) (ha : SA K X [a, b, c] fa)
    (hw : swappedStores [.Tuple [.Name x px, .Name y py, .Name z pz] kt pt] (.Tuple [a, b, c] k2 pt2) X.env = pure (some [x, y, z]))
    (hs : swapsWithSole [.Tuple [.Name x px, .Name y py, .Name z pz] kt pt] (.Tuple [a, b, c] k2 pt2) pos.line X.env = pure false := by rfl) :
    SS K X (.Assign [.Tuple [.Name x px, .Name y py, .Name z pz] kt pt] (.Tuple [a, b, c] k2 pt2) pos) (sPar3 i j l fa) := fun hK hc => ps_mono (ps_par3 hc hN hi hj hl hij hil hjl hx hy hz (ha hK hc) hw hs) fun D σ H ⟨as, ρ, M, fl, M', sr, mr, ev, k⟩ => by
  unfold sPar3 at ev
  obtain ⟨⟨ds, M1⟩, e1, ev⟩ := Option.bind_eq_some_iff.mp ev
  dsimp only at ev
  split at ev
  · cases ev
    refine ⟨as, ρ, M, _, _, sr, mr, e1, fun vs as1 H1 g1 m1 r1 => ?_⟩
    cases r1 with
    | cons r r1 =>
      cases r1 with
      | cons r' r1 =>
        cases r1 with
        | cons r'' r1 =>
          cases r1
          exact ⟨_, _, _, rfl, k _ as1 H1 g1 m1 ((((sr.gr g1).set r i).set r' j).set r'' l)⟩
  · cases ev
end

/-! ### targets that take a list or a tuple apart -/
abbrev FM := D → Mem → Rho → Option Rho
def gTm (n : Nat) (gs : FGs) : FM := fun d M ρ => match d with
  | .tup ds => if ds.length = n then gs ds ρ else none
  | .rf j => match M[j]? with
    | some (.lst ds) => if ds.length = n then gs ds ρ else none
    | _ => none
  | _ => none
def rGm (K : Kx) (vs : List Nat) (f : FM) : TG := fun v σ H Q => ∃ as ρ M d ρ', SR K as H σ ρ ∧ MR K as H M ∧ VR K as H v d ∧ f d M ρ = some ρ' ∧ ∀ σ', SR K as H σ' ρ' → wipe σ' vs = wipe σ vs → Q σ' H
def SGm (K : Kx) (X : Cx) (vs : List Nat) (e : Expr) (f : FM) : Prop := X.K = K.K → X.calm = true → PG X e (rGm K vs f)
def bodyM (g : FM) (b : FS) : D → Rho → Mem → Option (Fl × Mem) := fun d ρ M => (g d M ρ).bind fun ρ1 => b ρ1 M
noncomputable def sForM (fi : FI) (g : FM) (b : FS) : FS := fun ρ M => (fi ρ M).bind fun p => runG p.1.2 (bodyM g b) p.1.1 ρ p.2
def sAsgM (f : FE) (g : FM) : FS := fun ρ M => (f ρ M).bind fun p => (g p.1 p.2 ρ).map fun ρ1 => (.nx ρ1, p.2)
section
variable {K : Kx} {X : Cx} {vs : List Nat} {pos : Pos} {tg e : Expr} {fe : FE}
theorem sgm_tup {es : List Expr} {kk : Nat} {gs : FGs} {n : Nat} (h : SGs K X vs es gs) (hn : (assignEach es X.env).length = n := by rfl) (hst : (assignEach es X.env).findIdx? (·.1) = none := by rfl) : SGm K X vs (.Tuple es kk pos) (gTm n gs) :=
  fun hK hc => by
    obtain ⟨_, Γ⟩ := K
    cases hK
    refine ⟨fun pins s σ H v u Q I ru q => ?_⟩
    obtain ⟨as, ρ, M, d, ρ', sr, mr, r, ev, k⟩ := q
    cases r with
    | @tup a xs ds h1 hs =>
      simp only [gTm] at ev
      split at ev
      · rename_i hl
        exact (pg_tup hc (h rfl hc) hn hst).run pins s σ H _ u Q I ru ⟨a, xs, rfl, h1.sq, by rw [hs.len]; exact hl, as, ρ, ds, ρ', sr, hs, ev, k⟩
      · cases ev
    | @rf i a hi =>
      simp only [gTm] at ev
      cases hm : M[i]? with
      | none => rw [hm] at ev; cases ev
      | some c =>
        rw [hm] at ev
        cases c with
        | lst ds =>
          dsimp only at ev
          split at ev
          · rename_i hl
            obtain ⟨xs, hx, hs⟩ := mr.cell i a _ hi hm
            exact (pg_lst hc (h rfl hc) hn hst).run pins s σ H _ u Q I ru ⟨a, xs, rfl, .inl (.inl hx), by rw [hs.len]; exact hl, as, ρ, ds, ρ', sr, hs, ev, k⟩
          · cases ev
        | _ => cases ev
    | _ => cases ev
theorem ss_asgM {g : FM} (he : SE K X e fe) (hg : SGm K X vs tg g) (hs : swapsWithSole [tg] e pos.line X.env = pure false := by rfl) (hw : swappedStores [tg] e X.env = pure none := by rfl)
    (h1 : (assignEach [tg] X.env).map (·.2) = [assign tg X.env] := by rfl) : SS K X (.Assign [tg] e pos) (sAsgM fe g) := fun hK hc => ps_mono (ps_asg (he hK hc) (hg hK hc) hs hw h1) fun D σ H ⟨as, ρ, M, fl, M', sr, mr, ev, k⟩ => by
  unfold sAsgM at ev
  obtain ⟨⟨d, M1⟩, e1, ev⟩ := Option.bind_eq_some_iff.mp ev
  obtain ⟨ρ1, e2, ev⟩ := Option.map_eq_some_iff.mp ev
  cases ev
  exact ⟨as, ρ, M, d, _, sr, mr, e1, fun v as1 H1 g1 m1 r1 => ⟨as1, ρ, M1, d, ρ1, sr.gr g1, m1, r1, e2, fun σ' s' _ => k σ' as1 H1 g1 m1 s'⟩⟩
theorem ss_forM {iter : Expr} {body : List Stmt} {fi : FI} {g : FM} {fb : FS} (hp : PassesOwn (model X.prog X.w) X.A X.env X.xe)
    (hi : SI K X tg iter fi) (hg : SGm K X vs tg g) (hb : SSs K X body fb) (hs : ∀ x, foldedSetIterable iter X.env x = pure x := by intro _; rfl) : SS K X (.For tg iter body [] pos) (sForM fi g fb) :=
  fun hK hc => ps_mono (ps_for hp hc (hi hK hc) (hg hK hc) (hb hK hc) hs) fun D σ H ⟨as, ρ, M, fl, M', sr, mr, ev, k⟩ => by
    unfold sForM at ev
    obtain ⟨⟨⟨ds, gd⟩, M1⟩, e1, ev⟩ := Option.bind_eq_some_iff.mp ev
    refine ⟨as, ρ, M, (ds, gd), M1, sr, mr, e1, fun J as1 H1 g1 m1 it => ?_⟩
    refine ⟨fun i m σ H => i ≤ ds.length ∧ m = ds.length - i ∧ ∃ as ρ M, Gr as1 H1 as H ∧ SR K as H σ ρ ∧ MR K as H M ∧ runG gd (bodyM g fb) (ds.drop i) ρ M = some (fl, M') ∧ FlOk K as H M' D fl,
      ⟨ds.length, Nat.zero_le _, rfl, as1, ρ, M1, Gr.refl, sr.gr g1, m1, by simpa using ev, k.gr g1⟩, ?_⟩
    rintro i m σ H ⟨hi, rfl, as, ρ, M, g2, sr, mr, ev, k⟩
    by_cases hl : i < ds.length
    · rw [List.drop_eq_getElem_cons hl] at ev
      unfold runG at ev
      split at ev
      · rename_i hgd
        have hd : ds[i]? = some ds[i] := List.getElem?_eq_getElem hl
        obtain ⟨hgo, hy⟩ := it.go as H M i _ g2 mr hgd hd
        obtain ⟨⟨y, M2⟩, e2, ev⟩ := Option.bind_eq_some_iff.mp ev
        unfold bodyM at e2
        obtain ⟨ρ1, e3, e2⟩ := Option.bind_eq_some_iff.mp e2
        refine .inr ⟨hgo, fun σ H => ∃ as ρ M, Gr as1 H1 as H ∧ SR K as H σ ρ ∧ MR K as H M ∧ runG gd (bodyM g fb) (ds.drop (i + 1)) ρ M = some (fl, M') ∧ FlOk K as H M' D fl, fun σ' H' hN => ⟨ds.length - (i + 1), by omega, hl, rfl, hN⟩, fun x H3 hx => ?_⟩
        obtain ⟨g3, m3, r3⟩ := hy x H3 hx
        refine ⟨as, ρ, M, _, ρ1, sr.gr g3, m3, r3, e3, fun σ4 s4 _ => ⟨as, ρ1, M, y, M2, s4, m3, e2, ?_⟩⟩
        cases y with
        | nx ρ2 => exact fun σ' as5 H5 g5 m5 s5 => ⟨as5, ρ2, M2, (g2.trans g3).trans g5, s5, m5, ev, (k.gr g3).gr g5⟩
        | ct ρ2 => exact fun σ' as5 H5 g5 m5 s5 => ⟨as5, ρ2, M2, (g2.trans g3).trans g5, s5, m5, ev, (k.gr g3).gr g5⟩
        | bk ρ2 => cases ev; exact k.gr g3
        | rt d => cases ev; exact k.gr g3
      · cases ev
    · have hi' : i = ds.length := by omega
      subst hi'
      rw [List.drop_length] at ev
      unfold runG at ev
      split at ev
      · rename_i hgd
        cases ev
        exact .inl ⟨it.stop as H _ g2 mr hgd, k σ as H Gr.refl mr sr⟩
      · cases ev
end

/-! ### further methods of lists, stars, membership, walks the other way, dicts of the module -/
theorem VRs.dropLast {K : Kx} {as : List Addr} {H : Hp} {xs : List V} {ds : List D} (h : VRs K as H xs ds) : VRs K as H xs.dropLast ds.dropLast := by
  rw [List.dropLast_eq_take, List.dropLast_eq_take, h.len]
  exact h.take _
def mPop : D → GL
  | .rf l, [], M => match M[l]? with
    | some (.lst ds) => match ds[ds.length - 1]? with
      | some d => some (d, M.set l (.lst ds.dropLast))
      | none => none
    | _ => none
  | _, _, _ => none
def mIns : D → GL
  | .rf l, [.int i, d], M => match M[l]? with
    | some (.lst ds) => if ds.length < 100000 ∧ 0 ≤ i ∧ i < 100000 then some (.non, M.set l (.lst (ds.take i.toNat ++ [d] ++ ds.drop i.toNat))) else none
    | _ => none
  | _, _, _ => none
def fStar (fe : FE) (fr : FA) : FA := fun ρ M => (fe ρ M).bind fun p => (seqOf p.1 p.2).bind fun ds => (fr ρ p.2).bind fun q => some (ds ++ q.1, q.2)
def D.flat : D → Bool
  | .non => true
  | .bl _ => true
  | .int _ => true
  | .str _ => true
  | _ => false
def D.eqFl : D → D → Bool
  | .non, .non => true
  | .bl a, .bl b => a == b
  | .bl a, .int b => (if a then 1 else 0) == b
  | .int a, .bl b => a == (if b then 1 else 0)
  | .int a, .int b => a == b
  | .str a, .str b => a == b
  | _, _ => false
def gInB (neg : Bool) : G2 := fun x y M => (seqOf y M).bind fun ds => if x.flat = true ∧ ds.all D.flat = true then some (.bl (if neg then !(ds.any fun y => y.eqFl x) else ds.any fun y => y.eqFl x), M) else none
def gIn : G2 := gInB false
def gNotIn : G2 := gInB true
def fDc (tab : List (Str × Int)) (fk : FE) : FE := fun ρ M => (fk ρ M).bind fun p => match p.1 with
  | .str z => (tab.lookup z).map fun i => (.int i, p.2)
  | _ => none
def revOf : D → Mem → Option Src
  | .tup ds, _ => some (ds.reverse, fun _ => True)
  | .rf j, M => match M[j]? with
    | some (.lst ds) => some (ds.reverse, fun M' => M'[j]? = some (.lst ds))
    | _ => none
  | _, _ => none
def iRv (fe : FE) : FI := fun ρ M => (fe ρ M).bind fun p => (revOf p.1 p.2).map fun s => (s, p.2)
section
variable {K : Kx} {X : Cx} {o e a b : Expr} {es : List Expr} {fo fe fa' fk : FE} {fa fr : FA} {pos apos cpos p2 : Pos}
theorem mr_pop : X.K = K.K → X.calm = true → MtR X "list.pop" (rM K mPop) := fun hK _ pins s σ H x xs v us Q I r1 r2 hh => by
  obtain ⟨_, Γ⟩ := K
  cases hK
  obtain ⟨as, M, dx, ds, d, M', m, q1, q2, ev, k⟩ := hh
  unfold mPop at ev
  split at ev
  · split at ev
    · rename_i ds hd
      split at ev
      · rename_i y hy
        cases ev
        cases q1 with
        | @rf i a h =>
          cases q2
          obtain ⟨ys, p1, rs⟩ := m.lst h hd
          obtain ⟨u, hu, ru⟩ := rs.get hy
          have gw : Gr as H as (upd H a (.lst ys.dropLast)) := Gr.write m (List.mem_of_getElem? h)
          exact mt_pop pins s σ H _ _ v us Q I r1 r2 ⟨a, ys, u, rfl, rfl, p1, by rw [rs.len]; exact hu, k _ as _ gw (m.write h ⟨_, upd_same, rs.dropLast.gr gw⟩) (ru.gr gw)⟩
      · cases ev
    · cases ev
  · cases ev
theorem se_pop (ho : SE K X o fo) (hbase : attributeBase o "pop" X.env (eval o X.env) = eval o X.env := by rfl)
    (hline : (apos.endLine == cpos.line) = true := by rfl) :
    SE K X (.Call (.Attribute o "pop" apos) [] [] cpos) (fML mPop fo fNil) := fun hK hc => by
  obtain ⟨_, Γ⟩ := K
  cases hK
  exact pe_mono (pe_bm0 PySem.F.plainAttrs_list PySem.F.slot_list_pop PySem.F.type_list_pop (mr_pop rfl hc) (ho rfl hc) hbase hline) fun _ _ _ => fun h => rE.ml0 h
theorem mr_insert : X.K = K.K → X.calm = true → MtR X "list.insert" (rM K mIns) := fun hK _ pins s σ H x xs v us Q I r1 r2 hh => by
  obtain ⟨_, Γ⟩ := K
  cases hK
  obtain ⟨as, M, dx, ds, d, M', m, q1, q2, ev, k⟩ := hh
  unfold mIns at ev
  split at ev
  · rename_i l _ i dd
    split at ev
    · rename_i ds hd
      split at ev
      · rename_i hl
        cases ev
        cases q1 with
        | @rf _ a h =>
          cases q2 with
          | cons r3 q2 =>
          cases r3
          cases q2 with
          | @cons y _ _ _ q q2 =>
          cases q2
          obtain ⟨ys, p1, rs⟩ := m.lst h hd
          have gw : Gr as H as (upd H a (.lst (ys.take i.toNat ++ [y] ++ ys.drop i.toNat))) := Gr.write m (List.mem_of_getElem? h)
          exact mt_insert pins s σ H _ _ v us Q I r1 r2 ⟨a, ys, i, y, rfl, rfl, p1, Nat.lt_of_lt_of_le (by rw [rs.len]; exact hl.1) (lim_ok (Nat.le_refl _)), hl.2.1, by have := hl.2.2; omega, k _ as _ gw (m.write h ⟨_, upd_same, (((rs.take _).append (.cons q .nil)).append (rs.drop _)).gr gw⟩) .non⟩
      · cases ev
    · cases ev
  · cases ev
theorem se_insert (ho : SE K X o fo) (ha : SA K X (e :: es) fa) (hbase : attributeBase o "insert" X.env (eval o X.env) = eval o X.env := by rfl)
    (hfew : ((backTo cpos (starEach (e :: es) X.env)).all (fun x => !x.1) && (backToKw cpos (keywordEach [] X.env)).all (fun x => x.1.isSome)
      && decide ((e :: es).length + ([] : List Keyword).length + (if ([] : List Keyword).isEmpty then 0 else 1) < 30)) = true := by rfl)
    (hline : (apos.endLine == cpos.line) = true := by rfl) (hs : starEach (e :: es) X.env = (false, eval e X.env) :: starEach es X.env := by rfl) (hplain : (backTo cpos (starEach es X.env)).any (·.1) = false := by rfl) :
    SE K X (.Call (.Attribute o "insert" apos) (e :: es) [] cpos) (fML mIns fo fa) := fun hK hc => by
  obtain ⟨_, Γ⟩ := K
  cases hK
  exact pe_mono (pe_bm PySem.F.plainAttrs_list PySem.F.slot_list_insert PySem.F.type_list_insert (mr_insert rfl hc) (ho rfl hc) (ha rfl hc) hbase hfew hline hs hplain) fun _ _ _ => rE.ml
theorem sa_star (he : SE K X e fe) (hr : SA K X es fr) (hs : starEach (.Starred e p2 :: es) X.env = (true, eval e X.env) :: starEach es X.env := by rfl) : SA K X (.Starred e p2 :: es) (fStar fe fr) :=
  fun hK hc => by
    obtain ⟨_, Γ⟩ := K
    cases hK
    refine pa_mono (StX.pa_star (he rfl hc) (hr rfl hc) hs) fun σ H Q ⟨as, ρ, M, ds, M', sr, mr, ev, k⟩ => ?_
    unfold fStar at ev
    obtain ⟨⟨x, M1⟩, e1, ev⟩ := Option.bind_eq_some_iff.mp ev
    obtain ⟨xs, e2, ev⟩ := Option.bind_eq_some_iff.mp ev
    obtain ⟨⟨y, M2⟩, e3, ev⟩ := Option.bind_eq_some_iff.mp ev
    cases ev
    refine ⟨as, ρ, M, x, M1, sr, mr, e1, fun v as1 H1 g1 m1 r1 => ?_⟩
    obtain ⟨a, vs, rfl, h, rs⟩ := seqOf_rel m1 r1 e2
    refine ⟨a, vs, rfl, h.elim .inr fun h => .inl h.sq, as1, ρ, M1, y, _, sr.gr g1, m1, e3, fun us as2 H2 g2 m2 r2 => k _ as2 H2 (g1.trans g2) m2 ((rs.gr g2).append r2)⟩
theorem flat_rel {as : List Addr} {H : Hp} {v : V} {d : D} (r : VR K as H v d) (h : d.flat = true) : flatV v = true := by
  cases r <;> first | rfl | cases h
theorem flats_rel {as : List Addr} {H : Hp} : ∀ {vs : List V} {ds : List D}, VRs K as H vs ds → ds.all D.flat = true → vs.all flatV = true
  | _, _, .nil, _ => rfl
  | _, _, .cons r rs, h => by
    rw [List.all_cons, Bool.and_eq_true] at h ⊢
    exact ⟨flat_rel r h.1, flats_rel rs h.2⟩
theorem eqFl_rel {as : List Addr} {H : Hp} {x y : V} {dx dy : D} (r1 : VR K as H x dx) (r2 : VR K as H y dy) (h1 : dx.flat = true) (h2 : dy.flat = true) : eqV x y = dx.eqFl dy := by
  cases r1 <;> first | (cases h1; done) | (cases r2 <;> first | (cases h2; done) | rfl)
theorem any_rel {as : List Addr} {H : Hp} {x : V} {dx : D} (r : VR K as H x dx) (hx : dx.flat = true) : ∀ {vs : List V} {ds : List D}, VRs K as H vs ds → ds.all D.flat = true → inV x vs = ds.any fun y => y.eqFl dx
  | _, _, .nil, _ => rfl
  | _, _, .cons q rs, h => by
    rw [List.all_cons, Bool.and_eq_true] at h
    have ih := any_rel r hx rs h.2
    unfold inV at ih ⊢
    rw [List.any_cons, List.any_cons, ih, eqFl_rel q r h.1 hx]
theorem in_rel {neg : Bool} {x y : V} {H : Hp} {Q : VK} (hh : rO K (gInB neg) x y H Q) : rIn K.K neg x y H Q := by
  obtain ⟨as, M, dx, dy, d, M', m, q1, q2, ev, k⟩ := hh
  unfold gInB at ev
  obtain ⟨ds, e1, ev⟩ := Option.bind_eq_some_iff.mp ev
  split at ev
  · rename_i hf
    cases ev
    obtain ⟨a, vs, rfl, h, rs⟩ := seqOf_rel m q2 e1
    refine ⟨a, vs, rfl, h.elim .inl fun h => .inr h.sq, flat_rel q1 hf.1, flats_rel rs hf.2, ?_⟩
    rw [any_rel q1 hf.1 rs hf.2]
    exact k _ as H Gr.refl m (.bl _)
  · cases ev
theorem or_in : X.K = K.K → OpR X (compareOp .In) (rO K gIn) := fun hK pins s σ H x y v u Q I r1 r2 hh => by
  obtain ⟨_, Γ⟩ := K
  cases hK
  exact op_in_seq pins s σ H x y v u Q I r1 r2 (in_rel hh)
theorem or_notIn : X.K = K.K → OpR X (compareOp .NotIn) (rO K gNotIn) := fun hK pins s σ H x y v u Q I r1 r2 hh => by
  obtain ⟨_, Γ⟩ := K
  cases hK
  exact op_notIn_seq pins s σ H x y v u Q I r1 r2 (in_rel hh)
theorem se_dc {n : Str} {A : Addr} {tab : List (Str × Int)} (hg : Gl X n) (hm : X.mg n = some (.ref A)) (hk : X.K = K.K → ∀ z i, tab.lookup z = some i → KDct X.K X.w A z (.int i)) (he : SE K X e fk) (hs : PlainIx e) (hd : (n == ("__debug__" : Str)) = false := by decide) : SE K X (.Subscript (.Name n p2) e pos) (fDc tab fk) :=
  fun hK hc => pe_mono (pe_ix ix_kdict (pe_glob (v := .ref A) hg hm rfl hd) (he hK hc) hs) fun σ H Q ⟨as, ρ, M, d, M', sr, mr, ev, k⟩ => by
    unfold fDc at ev
    obtain ⟨⟨x, M1⟩, e1, ev⟩ := Option.bind_eq_some_iff.mp ev
    dsimp only at ev
    split at ev
    · rename_i z
      obtain ⟨i, e2, ev⟩ := Option.map_eq_some_iff.mp ev
      cases ev
      refine ⟨as, ρ, M, _, _, sr, mr, e1, fun v as1 H1 g1 m1 r1 => ?_⟩
      cases r1
      exact ⟨A, z, .int i, rfl, rfl, hk hK z i e2, k _ as1 H1 g1 m1 (.int i)⟩
    · cases ev
theorem itr_revT {as : List Addr} {H : Hp} {a : Addr} {xs : List V} {ds : List D} (h : TupS K H a xs) (r : VRs K as H xs ds) : ItR K as H (RT.ItvT K.K a xs.length) (ds.reverse, fun _ => True) where
  stop := fun as' H' M g m _ => by
    show xs.length ≤ ds.reverse.length
    rw [List.length_reverse, r.len]
    exact Nat.le_refl _
  go := fun as' H' M i d g m _ e => by
    have q := (h.gv g.gv).sq
    have hi : i < ds.reverse.length := (List.getElem?_eq_some_iff.mp e).1
    rw [List.length_reverse] at hi
    rw [List.getElem?_reverse hi] at e
    have el := r.len
    obtain ⟨v, f1, v1⟩ := (r.gr g).get e
    rw [← el] at f1
    refine ⟨⟨by omega, xs, v, q, f1⟩, fun x H2 y => ?_⟩
    obtain ⟨rfl, y⟩ := y
    have := y xs q
    rw [f1] at this
    cases this
    exact ⟨Gr.refl, m, v1⟩
theorem itr_revL {as : List Addr} {H : Hp} {a : Addr} {j : Nat} {ds : List D} {n : Nat} (h : as[j]? = some a) (hn : n = ds.length) : ItR K as H (Itv K.K a n) (ds.reverse, fun M' => M'[j]? = some (.lst ds)) where
  stop := fun as' H' M g m _ => by
    show n ≤ ds.reverse.length
    rw [List.length_reverse, hn]
    exact Nat.le_refl _
  go := fun as' H' M i d g m hg e => by
    obtain ⟨xs, p, r⟩ := m.lst (g.gv.get h) hg
    have hi : i < ds.reverse.length := (List.getElem?_eq_some_iff.mp e).1
    rw [List.length_reverse] at hi
    rw [List.getElem?_reverse hi] at e
    obtain ⟨v, f1, v1⟩ := r.get e
    rw [← hn] at f1
    refine ⟨⟨by omega, xs, v, SqL.of p, f1⟩, fun x H2 y => ?_⟩
    obtain ⟨rfl, y⟩ := y
    have := y xs (SqL.of p)
    rw [f1] at this
    cases this
    exact ⟨Gr.refl, m, v1⟩
theorem si_rev {tg : Expr} {p : Pos} (hg : Gl X "reversed") (hm : X.mg "reversed" = none) (he : SE K X e fe) (hs : starEach [e] X.env = (false, eval e X.env) :: starEach [] X.env := by rfl) : SI K X tg (.Call (.Name "reversed" p) [e] [] pos) (iRv fe) := fun hK hc => by
  obtain ⟨_, Γ⟩ := K
  cases hK
  refine pi_mono (RT.pi_revA hg hm (he rfl hc) hs) fun σ H R ⟨as, ρ, M, sc, M', sr, mr, ev, k⟩ => ?_
  unfold iRv at ev
  obtain ⟨⟨d, M1⟩, e1, ev⟩ := Option.bind_eq_some_iff.mp ev
  obtain ⟨sc', e2, ev⟩ := Option.map_eq_some_iff.mp ev
  cases ev
  refine ⟨as, ρ, M, d, _, sr, mr, e1, fun v as1 H1 g1 m1 r1 => ?_⟩
  cases r1 with
  | tup h hs =>
    cases e2
    exact ⟨_, _, rfl, .inr ⟨h.sq, k _ as1 H1 g1 m1 (itr_revT h hs)⟩⟩
  | rf h =>
    simp only [revOf] at e2
    split at e2
    · rename_i ds hd
      cases e2
      obtain ⟨xs, q, r⟩ := m1.lst h hd
      exact ⟨_, xs, rfl, .inl ⟨SqL.of q, k _ as1 H1 g1 m1 (itr_revL h r.len)⟩⟩
    · cases e2
  | _ => cases e2
end
/-- a dict of the module, entry by entry -/
def DcOk (K : PySem.W.Frag) (w : World) (A : Addr) (tab : List (Str × Int)) : Prop := ∀ z i, tab.lookup z = some i → KDct K w A z (.int i)
theorem dc_nil {K : PySem.W.Frag} {w : World} {A : Addr} : DcOk K w A [] := fun _ _ h => by cases h
theorem dc_cons {K : PySem.W.Frag} {w : World} {A : Addr} {tab : List (Str × Int)} {k : Str} {i : Int} (h : KDct K w A k (.int i)) (r : DcOk K w A tab) : DcOk K w A ((k, i) :: tab) := fun z j e => by
  rw [List.lookup_cons] at e
  split at e
  · rename_i q
    cases e
    rw [eq_of_beq q]
    exact h
  · exact r z j e

/-! ### the mirror run by rewriting: what follows is always a named thing, so that nothing is looked at ahead of its turn -/
/-- said so that no rewriting takes it for a mere unfolding: the kernel would walk the whole program -/
theorem nrfl {α : Type} {a b : α} (h : a = b) : a = b := h
def ob {α β : Type} (x : Option α) (f : α → Option β) : Option β := x.bind f
theorem ob_s {α β : Type} (a : α) (f : α → Option β) : ob (some a) f = f a := rfl
theorem ob_n {α β : Type} (f : α → Option β) : ob none f = none := rfl
def vOf : Option (Option D) → Mem → Option (D × Mem)
  | some (some d), M => some (d, M)
  | _, _ => none
def kO2 (g : G2) (d : D) (p : D × Mem) : Option (D × Mem) := g d p.1 p.2
def kO (g : G2) (fb : FE) (ρ : Rho) (p : D × Mem) : Option (D × Mem) := ob (fb ρ p.2) (kO2 g p.1)
def kU (g : G1) (p : D × Mem) : Option (D × Mem) := g p.1 p.2
def kCons2 (d : D) (p : List D × Mem) : Option (List D × Mem) := some (d :: p.1, p.2)
def kCons (fr : FA) (ρ : Rho) (p : D × Mem) : Option (List D × Mem) := ob (fr ρ p.2) (kCons2 p.1)
def kL (g : GL) (p : List D × Mem) : Option (D × Mem) := g p.1 p.2
def kIf (fa fb : FE) (ρ : Rho) (p : Bool × Mem) : Option (D × Mem) := if p.1 = true then fa ρ p.2 else fb ρ p.2
def kB (p : D × Mem) : Option (Bool × Mem) := match p.1 with
  | .bl b => some (b, p.2)
  | _ => none
def kTr2 (M : Mem) (b : Bool) : Option (Bool × Mem) := some (b, M)
def kTr (p : D × Mem) : Option (Bool × Mem) := ob (gTru p.1 p.2) (kTr2 p.2)
def kAn (tb : FT) (ρ : Rho) (p : Bool × Mem) : Option (Bool × Mem) := if p.1 = true then tb ρ p.2 else some (false, p.2)
def kOr (tb : FT) (ρ : Rho) (p : Bool × Mem) : Option (Bool × Mem) := if p.1 = true then some (true, p.2) else tb ρ p.2
def kNo (p : Bool × Mem) : Option (Bool × Mem) := some (!p.1, p.2)
def kNotB (p : D × Mem) : Option (D × Mem) := match p.1 with
  | .bl b => some (.bl (!b), p.2)
  | _ => none
def kAnB (fb : FE) (ρ : Rho) (p : D × Mem) : Option (D × Mem) := match p.1 with
  | .bl c => if c = true then fb ρ p.2 else some (.bl false, p.2)
  | _ => none
def kOrB (fb : FE) (ρ : Rho) (p : D × Mem) : Option (D × Mem) := match p.1 with
  | .bl c => if c = true then some (.bl true, p.2) else fb ρ p.2
  | _ => none
def kTup (p : List D × Mem) : Option (D × Mem) := if p.1.length ≤ 100000 then some (.tup p.1, p.2) else none
def kLst (p : List D × Mem) : Option (D × Mem) := if p.1.length ≤ 100000 then some (.rf p.2.length, p.2 ++ [.lst p.1]) else none
def kD (M : Mem) (d : D) : Option (D × Mem) := some (d, M)
def kCP (m : List D → Option D) (p : List D × Mem) : Option (D × Mem) := ob (m p.1) (kD p.2)
def kML2 (g : D → GL) (d : D) (p : List D × Mem) : Option (D × Mem) := g d p.1 p.2
def kML (g : D → GL) (fr : FA) (ρ : Rho) (p : D × Mem) : Option (D × Mem) := if isLst p.1 p.2 = true then ob (fr ρ p.2) (kML2 g p.1) else none
def kS3 (d : D) (o : Option Int) (p : Option Int × Mem) : Option (D × Mem) := gSl d o p.1 p.2
def kS2 (hi : Option FE) (ρ : Rho) (d : D) (p : Option Int × Mem) : Option (D × Mem) := ob (oF hi ρ p.2) (kS3 d p.1)
def kS1 (lo hi : Option FE) (ρ : Rho) (p : D × Mem) : Option (D × Mem) := ob (oF lo ρ p.2) (kS2 hi ρ p.1)
def kI (p : D × Mem) : Option (Option Int × Mem) := match p.1 with
  | .int i => some (some i, p.2)
  | _ => none
def kCh3 (g' : G2) (fc : FE) (ρ : Rho) (e : D) (p : D × Mem) : Option (D × Mem) := match p.1 with
  | .bl k => if k = true then ob (fc ρ p.2) (kO2 g' e) else some (.bl false, p.2)
  | _ => none
def kCh2 (g g' : G2) (fc : FE) (ρ : Rho) (d : D) (p : D × Mem) : Option (D × Mem) := ob (g d p.1 p.2) (kCh3 g' fc ρ p.1)
def kCh1 (g g' : G2) (fb fc : FE) (ρ : Rho) (p : D × Mem) : Option (D × Mem) := ob (fb ρ p.2) (kCh2 g g' fc ρ p.1)
/-- what follows a statement -/
def then_ (b : FS) (p : Fl × Mem) : Option (Fl × Mem) := match p.1 with
  | .nx ρ1 => b ρ1 p.2
  | fl => some (fl, p.2)
def kNx (M : Mem) (ρ : Rho) : Option (Fl × Mem) := some (.nx ρ, M)
def kAsg (g : FG) (ρ : Rho) (p : D × Mem) : Option (Fl × Mem) := ob (g p.1 ρ) (kNx p.2)
def par2 (i j : Nat) (ρ : Rho) (p : List D × Mem) : Option (Fl × Mem) := match p.1 with
  | [d, e] => some (.nx ((ρ.set i (some d)).set j (some e)), p.2)
  | _ => none
def kRet (p : D × Mem) : Option (Fl × Mem) := some (.rt p.1, p.2)
def kDrop (ρ : Rho) (p : D × Mem) : Option (Fl × Mem) := some (.nx ρ, p.2)
def kSif (sa sb : FS) (ρ : Rho) (p : Bool × Mem) : Option (Fl × Mem) := if p.1 = true then sa ρ p.2 else sb ρ p.2
def kNxM (ρ : Rho) (M : Mem) : Option (Fl × Mem) := some (.nx ρ, M)
def kSub3 (ρ : Rho) (d o : D) (p : D × Mem) : Option (Fl × Mem) := ob (setAt o p.1 d p.2) (kNxM ρ)
def kSub2 (fx : FE) (ρ : Rho) (d : D) (p : D × Mem) : Option (Fl × Mem) := ob (fx ρ p.2) (kSub3 ρ d p.1)
def kSub1 (fo fx : FE) (ρ : Rho) (p : D × Mem) : Option (Fl × Mem) := ob (fo ρ p.2) (kSub2 fx ρ p.1)
noncomputable def kFor (g : FG) (b : FS) (ρ : Rho) (p : Src × Mem) : Option (Fl × Mem) := runG p.1.2 (bodyG g b) p.1.1 ρ p.2
/-- a turn's end -/
def turn (k : Rho → Mem → Option (Fl × Mem)) (q : Fl × Mem) : Option (Fl × Mem) := match q.1 with
  | .nx ρ1 => k ρ1 q.2
  | .ct ρ1 => k ρ1 q.2
  | .bk ρ1 => some (.nx ρ1, q.2)
  | .rt d => some (.rt d, q.2)
def kBody (b : FS) (M : Mem) (ρ : Rho) : Option (Fl × Mem) := b ρ M
def kSrc (M : Mem) (s : Src) : Option (Src × Mem) := some (s, M)
def kIE (p : D × Mem) : Option (Src × Mem) := ob (itemsOf p.1 p.2) (kSrc p.2)
def kR1 (p : D × Mem) : Option (Src × Mem) := match p.1 with
  | .int j => if j ≤ 100000 ∧ -100000 ≤ j then some ((upto 0 j.toNat, fun _ => True), p.2) else none
  | _ => none
def kR2b (d : D) (p : D × Mem) : Option (Src × Mem) := match d, p.1 with
  | .int i, .int j => if j ≤ 100000 ∧ -100000 ≤ i ∧ -100000 ≤ j ∧ i ≤ 100000 then some ((upto i (j - i).toNat, fun _ => True), p.2) else none
  | _, _ => none
def kR2 (fb : FE) (ρ : Rho) (p : D × Mem) : Option (Src × Mem) := ob (fb ρ p.2) (kR2b p.1)
def kZ2 (d : D) (p : D × Mem) : Option (Src × Mem) := ob (zipOf d p.1 p.2) (kSrc p.2)
def kZ1 (fb : FE) (ρ : Rho) (p : D × Mem) : Option (Src × Mem) := ob (fb ρ p.2) (kZ2 p.1)
def enOf : D → Mem → Option Src
  | .rf j, M => match M[j]? with
    | some (.lst ds) => some (numbered ds, fun M' => M'[j]? = some (.lst ds))
    | _ => none
  | .rol ds, _ => some (numbered ds, fun _ => True)
  | .tup ds, _ => some (numbered ds, fun _ => True)
  | _, _ => none
def kEn (p : D × Mem) : Option (Src × Mem) := ob (enOf p.1 p.2) (kSrc p.2)
def kMap2 (od : Option D) (p : List D × Mem) : Option (List D × Mem) := some (od.toList ++ p.1, p.2)
noncomputable def kMap (gd : Mem → Prop) (it : D → Mem → Option (Option D × Mem)) (ds : List D) (p : Option D × Mem) : Option (List D × Mem) := ob (mapG gd it ds p.2) (kMap2 p.1)
def kSome (p : D × Mem) : Option (Option D × Mem) := some (some p.1, p.2)
def kIt2 (te : FE) (ρ : Rho) (p : Bool × Mem) : Option (Option D × Mem) := if p.1 = true then ob (te ρ p.2) kSome else some (none, p.2)
def kIt1 (tt : FT) (te : FE) (M : Mem) (ρ : Rho) : Option (Option D × Mem) := ob (tt ρ M) (kIt2 te ρ)
def kLc2 (n : Nat) (p : List D × Mem) : Option (D × Mem) := if n ≤ 100000 then some (.rf p.2.length, p.2 ++ [.lst p.1]) else none
noncomputable def kLc (g : FG) (tt : FT) (te : FE) (vs : List Nat) (ρ : Rho) (p : Src × Mem) : Option (D × Mem) := ob (mapG p.1.2 (itemG g tt te (wipeD ρ vs)) p.1.1 p.2) (kLc2 p.1.1.length)
def finP (p : Fl × Mem) : Option D := match p.1 with
  | .rt d => if d.imm = true then some d else none
  | .nx _ => some .non
  | _ => none
def finM (p : Fl × Mem) : Option (D × Mem) := match p.1 with
  | .rt d => some (d, p.2)
  | .nx _ => some (.non, p.2)
  | _ => none
def kGc (n : Nat) (p : D × Mem) : Option (D × Mem) := some (gc n p)
section
variable (ρ : Rho) (M : Mem) (i j n : Nat) (d e : D) (b : Bool) (ds : List D) (g g' : G2) (g1 : G1) (gl : GL) (fa fb fc : FE) (fr : FA) (ta tb : FT) (sa sb : FS) (gt : FG) (gs : FGs) (fi : FI)
theorem ev_V : fV i ρ M = vOf ρ[i]? M := by
  unfold fV vOf
  cases ρ[i]? with
  | none => rfl
  | some o => cases o <;> rfl
theorem vOf_e : vOf (some (some d)) M = some (d, M) := rfl
theorem ev_C : fC d ρ M = some (d, M) := rfl
theorem ev_O : fO g fa fb ρ M = ob (fa ρ M) (kO g fb ρ) := rfl
theorem kO_e : kO g fb ρ (d, M) = ob (fb ρ M) (kO2 g d) := rfl
theorem kO2_e : kO2 g d (e, M) = g d e M := rfl
theorem ev_U : fU g1 fa ρ M = ob (fa ρ M) (kU g1) := rfl
theorem kU_e : kU g1 (d, M) = g1 d M := rfl
theorem ev_Nil : fNil ρ M = some ([], M) := rfl
theorem ev_Cons : fCons fa fr ρ M = ob (fa ρ M) (kCons fr ρ) := rfl
theorem kCons_e : kCons fr ρ (d, M) = ob (fr ρ M) (kCons2 d) := rfl
theorem kCons2_e : kCons2 d (ds, M) = some (d :: ds, M) := rfl
theorem ev_L : fL gl fr ρ M = ob (fr ρ M) (kL gl) := rfl
theorem kL_e : kL gl (ds, M) = gl ds M := rfl
theorem ev_If : fIf ta fa fb ρ M = ob (ta ρ M) (kIf fa fb ρ) := rfl
theorem kIf_t : kIf fa fb ρ (true, M) = fa ρ M := rfl
theorem kIf_f : kIf fa fb ρ (false, M) = fb ρ M := rfl
theorem ev_tV : tV fa ρ M = ob (fa ρ M) kB := rfl
theorem kB_e : kB (.bl b, M) = some (b, M) := rfl
theorem ev_tTr : tTr fa ρ M = ob (fa ρ M) kTr := by
  unfold tTr ob kTr
  cases fa ρ M with
  | none => rfl
  | some p => simp only [Option.bind_some, ob, Option.map_eq_bind]; rfl
theorem kTr_e : kTr (d, M) = ob (gTru d M) (kTr2 M) := rfl
theorem kTr2_e : kTr2 M b = some (b, M) := rfl
theorem ev_tAn : tAn ta tb ρ M = ob (ta ρ M) (kAn tb ρ) := rfl
theorem kAn_t : kAn tb ρ (true, M) = tb ρ M := rfl
theorem kAn_f : kAn tb ρ (false, M) = some (false, M) := rfl
theorem ev_tOr : tOr2 ta tb ρ M = ob (ta ρ M) (kOr tb ρ) := rfl
theorem kOr_t : kOr tb ρ (true, M) = some (true, M) := rfl
theorem kOr_f : kOr tb ρ (false, M) = tb ρ M := rfl
theorem ev_tNo : tNo ta ρ M = ob (ta ρ M) kNo := rfl
theorem kNo_e : kNo (b, M) = some (!b, M) := rfl
theorem ev_NotB : fNotB fa ρ M = ob (fa ρ M) kNotB := rfl
theorem kNotB_e : kNotB (.bl b, M) = some (.bl (!b), M) := rfl
theorem ev_AnB : fAnB fa fb ρ M = ob (fa ρ M) (kAnB fb ρ) := rfl
theorem kAnB_t : kAnB fb ρ (.bl true, M) = fb ρ M := rfl
theorem kAnB_f : kAnB fb ρ (.bl false, M) = some (.bl false, M) := rfl
theorem ev_OrB : fOrB fa fb ρ M = ob (fa ρ M) (kOrB fb ρ) := rfl
theorem kOrB_t : kOrB fb ρ (.bl true, M) = some (.bl true, M) := rfl
theorem kOrB_f : kOrB fb ρ (.bl false, M) = fb ρ M := rfl
theorem ev_Tup : fTup fr ρ M = ob (fr ρ M) kTup := rfl
theorem kTup_e : kTup (ds, M) = if ds.length ≤ 100000 then some (.tup ds, M) else none := rfl
theorem ev_Lst : fLst fr ρ M = ob (fr ρ M) kLst := rfl
theorem kLst_e : kLst (ds, M) = if ds.length ≤ 100000 then some (.rf M.length, M ++ [.lst ds]) else none := rfl
theorem ev_CP (m : List D → Option D) : fCP m fr ρ M = ob (fr ρ M) (kCP m) := by
  unfold fCP ob kCP
  cases fr ρ M with
  | none => rfl
  | some p => simp only [Option.bind_some, ob, Option.map_eq_bind]; rfl
theorem kCP_e (m : List D → Option D) : kCP m (ds, M) = ob (m ds) (kD M) := rfl
theorem kD_e : kD M d = some (d, M) := rfl
theorem ev_ML (mg : D → GL) : fML mg fa fr ρ M = ob (fa ρ M) (kML mg fr ρ) := rfl
theorem kML_e (mg : D → GL) : kML mg fr ρ (d, M) = if isLst d M = true then ob (fr ρ M) (kML2 mg d) else none := rfl
theorem kML2_e (mg : D → GL) : kML2 mg d (ds, M) = mg d ds M := rfl
theorem ev_Sli (lo hi : Option FE) : fSli fa lo hi ρ M = ob (fa ρ M) (kS1 lo hi ρ) := rfl
theorem kS1_e (lo hi : Option FE) : kS1 lo hi ρ (d, M) = ob (oF lo ρ M) (kS2 hi ρ d) := rfl
theorem kS2_e (hi : Option FE) (o : Option Int) : kS2 hi ρ d (o, M) = ob (oF hi ρ M) (kS3 d o) := rfl
theorem kS3_e (o o' : Option Int) : kS3 d o (o', M) = gSl d o o' M := rfl
theorem ev_oN : oF none ρ M = some (none, M) := rfl
theorem ev_oS : oF (some fa) ρ M = ob (fa ρ M) kI := rfl
theorem kI_e (i : Int) : kI (.int i, M) = some (some i, M) := rfl
theorem ev_Ch : fCh g g' fa fb fc ρ M = ob (fa ρ M) (kCh1 g g' fb fc ρ) := rfl
theorem kCh1_e : kCh1 g g' fb fc ρ (d, M) = ob (fb ρ M) (kCh2 g g' fc ρ d) := rfl
theorem kCh2_e : kCh2 g g' fc ρ d (e, M) = ob (g d e M) (kCh3 g' fc ρ e) := rfl
theorem kCh3_t : kCh3 g' fc ρ e (.bl true, M) = ob (fc ρ M) (kO2 g' e) := rfl
theorem kCh3_f : kCh3 g' fc ρ e (.bl false, M) = some (.bl false, M) := rfl
theorem ev_gN : gN i d ρ = some (ρ.set i (some d)) := rfl
theorem ev_gsNil : gsNil [] ρ = some ρ := rfl
theorem ev_gsCons (r : List D) : gsCons gt gs (d :: r) ρ = ob (gt d ρ) (gs r) := rfl
theorem ev_gT : gT n gs (.tup ds) ρ = if ds.length = n then gs ds ρ else none := rfl
theorem then_nx : then_ sb (.nx ρ, M) = sb ρ M := nrfl rfl
theorem then_rt : then_ sb (.rt d, M) = some (.rt d, M) := nrfl rfl
theorem then_bk : then_ sb (.bk ρ, M) = some (.bk ρ, M) := nrfl rfl
theorem then_ct : then_ sb (.ct ρ, M) = some (.ct ρ, M) := nrfl rfl
theorem ev_Seq : sSeq sa sb ρ M = ob (sa ρ M) (then_ sb) := rfl
theorem ev_Asg : sAsg fa gt ρ M = ob (fa ρ M) (kAsg gt ρ) := by
  unfold sAsg ob kAsg
  cases fa ρ M with
  | none => rfl
  | some p => simp only [Option.bind_some, ob, Option.map_eq_bind]; rfl
theorem kAsg_e : kAsg gt ρ (d, M) = ob (gt d ρ) (kNx M) := rfl
theorem kNx_e : kNx M ρ = some (.nx ρ, M) := rfl
theorem par2_e : par2 i j ρ ([d, e], M) = some (.nx ((ρ.set i (some d)).set j (some e)), M) := rfl
theorem ev_Par : sPar i j fr ρ M = ob (fr ρ M) (par2 i j ρ) := rfl
theorem ev_Ret : sRet fa ρ M = ob (fa ρ M) kRet := by
  unfold sRet ob
  cases fa ρ M <;> rfl
theorem kRet_e : kRet (d, M) = some (.rt d, M) := rfl
theorem ev_Drop : sDrop fa ρ M = ob (fa ρ M) (kDrop ρ) := by
  unfold sDrop ob
  cases fa ρ M <;> rfl
theorem kDrop_e : kDrop ρ (d, M) = some (.nx ρ, M) := rfl
theorem ev_sIf : sIf ta sa sb ρ M = ob (ta ρ M) (kSif sa sb ρ) := rfl
theorem kSif_t : kSif sa sb ρ (true, M) = sa ρ M := rfl
theorem kSif_f : kSif sa sb ρ (false, M) = sb ρ M := rfl
theorem ev_Next : sNext ρ M = some (.nx ρ, M) := rfl
theorem ev_Brk : sBrk ρ M = some (.bk ρ, M) := rfl
theorem ev_Cont : sCont ρ M = some (.ct ρ, M) := rfl
theorem ev_RetN : sRetN ρ M = some (.rt .non, M) := rfl
theorem ev_Sub (fo fx : FE) : sSub fa fo fx ρ M = ob (fa ρ M) (kSub1 fo fx ρ) := by
  unfold sSub ob
  cases fa ρ M with
  | none => rfl
  | some p =>
    show ((fo ρ p.2).bind _) = ob (fo ρ p.2) _
    unfold ob
    cases fo ρ p.2 with
    | none => rfl
    | some q =>
      show ((fx ρ q.2).bind _) = ob (fx ρ q.2) _
      unfold ob
      cases fx ρ q.2 with
      | none => rfl
      | some r =>
        show (setAt _ _ _ _).map _ = ob (setAt _ _ _ _) _
        unfold ob
        rw [Option.map_eq_bind]
        rfl
theorem kSub1_e (fo fx : FE) : kSub1 fo fx ρ (d, M) = ob (fo ρ M) (kSub2 fx ρ d) := rfl
theorem kSub2_e (fx : FE) : kSub2 fx ρ d (e, M) = ob (fx ρ M) (kSub3 ρ d e) := rfl
theorem kSub3_e (o : D) : kSub3 ρ d o (e, M) = ob (setAt o e d M) (kNxM ρ) := rfl
theorem kNxM_e : kNxM ρ M = some (.nx ρ, M) := rfl
theorem ev_For : sFor fi gt sb ρ M = ob (fi ρ M) (kFor gt sb ρ) := rfl
variable (k : Rho → Mem → Option (Fl × Mem)) (gd : Mem → Prop) (body : D → Rho → Mem → Option (Fl × Mem))
theorem kFor_e : kFor gt sb ρ ((ds, gd), M) = runG gd (bodyG gt sb) ds ρ M := rfl
theorem turn_nx : turn k (.nx ρ, M) = k ρ M := nrfl rfl
theorem turn_ct : turn k (.ct ρ, M) = k ρ M := nrfl rfl
theorem turn_bk : turn k (.bk ρ, M) = some (.nx ρ, M) := nrfl rfl
theorem turn_rt : turn k (.rt d, M) = some (.rt d, M) := nrfl rfl
theorem runG_nil (h : gd M) : runG gd body [] ρ M = some (.nx ρ, M) := by
  unfold runG
  rw [if_pos h]
theorem runG_cons (h : gd M) : runG gd body (d :: ds) ρ M = ob (body d ρ M) (turn (runG gd body ds)) := by
  conv => lhs; unfold runG
  rw [if_pos h]
  rfl
theorem runT_nil : runG (fun _ => True) body [] ρ M = some (.nx ρ, M) := runG_nil _ _ _ _ trivial
theorem runT_cons : runG (fun _ => True) body (d :: ds) ρ M = ob (body d ρ M) (turn (runG (fun _ => True) body ds)) := runG_cons _ _ _ _ _ _ trivial
theorem ev_body : bodyG gt sb d ρ M = ob (gt d ρ) (kBody sb M) := rfl
theorem kBody_e : kBody sb M ρ = sb ρ M := rfl
theorem ev_iE : iE fa ρ M = ob (fa ρ M) kIE := by
  unfold iE ob kIE
  cases fa ρ M with
  | none => rfl
  | some p => simp only [Option.bind_some, ob, Option.map_eq_bind]; rfl
theorem kIE_e : kIE (d, M) = ob (itemsOf d M) (kSrc M) := rfl
theorem kSrc_e (s : Src) : kSrc M s = some (s, M) := rfl
theorem ev_iR1 : iR1 fa ρ M = ob (fa ρ M) kR1 := rfl
theorem kR1_e (j : Int) : kR1 (.int j, M) = if j ≤ 100000 ∧ -100000 ≤ j then some ((upto 0 j.toNat, fun _ => True), M) else none := rfl
theorem ev_iR2 : iR2 fa fb ρ M = ob (fa ρ M) (kR2 fb ρ) := rfl
theorem kR2_e : kR2 fb ρ (d, M) = ob (fb ρ M) (kR2b d) := rfl
theorem kR2b_e (i j : Int) : kR2b (.int i) (.int j, M) = if j ≤ 100000 ∧ -100000 ≤ i ∧ -100000 ≤ j ∧ i ≤ 100000 then some ((upto i (j - i).toNat, fun _ => True), M) else none := rfl
theorem ev_iZ : iZ fa fb ρ M = ob (fa ρ M) (kZ1 fb ρ) := by
  unfold iZ ob kZ1
  cases fa ρ M with
  | none => rfl
  | some p =>
    simp only [Option.bind_some, ob]
    cases fb ρ p.2 with
    | none => rfl
    | some q => simp only [Option.bind_some, ob, Option.map_eq_bind]; rfl
theorem kZ1_e : kZ1 fb ρ (d, M) = ob (fb ρ M) (kZ2 d) := rfl
theorem kZ2_e : kZ2 d (e, M) = ob (zipOf d e M) (kSrc M) := rfl
theorem ev_iEn : iEn fa ρ M = ob (fa ρ M) kEn := by
  unfold iEn ob kEn
  cases fa ρ M with
  | none => rfl
  | some p =>
    obtain ⟨d, M⟩ := p
    cases d with
    | rf j =>
      simp only [Option.bind_some, enOf, ob, kSrc]
      cases M[j]? with
      | none => rfl
      | some c => cases c <;> rfl
    | _ => rfl
theorem kEn_e : kEn (d, M) = ob (enOf d M) (kSrc M) := rfl
variable (tt : FT) (te : FE) (vs : List Nat) (it : D → Mem → Option (Option D × Mem))
theorem mapG_nil (h : gd M) : mapG gd it [] M = some ([], M) := by
  unfold mapG
  rw [if_pos h]
theorem mapG_cons (h : gd M) : mapG gd it (d :: ds) M = ob (it d M) (kMap gd it ds) := by
  conv => lhs; unfold mapG
  rw [if_pos h]
  rfl
theorem kMap_e (od : Option D) : kMap gd it ds (od, M) = ob (mapG gd it ds M) (kMap2 od) := rfl
theorem kMap2_e (od : Option D) : kMap2 od (ds, M) = some (od.toList ++ ds, M) := rfl
theorem mapT_nil : mapG (fun _ => True) it [] M = some ([], M) := mapG_nil _ _ _ trivial
theorem mapT_cons : mapG (fun _ => True) it (d :: ds) M = ob (it d M) (kMap (fun _ => True) it ds) := mapG_cons _ _ _ _ _ trivial
theorem ev_item : itemG gt tt te ρ d M = ob (gt d ρ) (kIt1 tt te M) := by
  unfold itemG ob kIt1
  cases gt d ρ with
  | none => rfl
  | some r =>
    simp only [Option.bind_some, ob]
    cases tt r M with
    | none => rfl
    | some p => simp only [Option.bind_some, ob, Option.map_eq_bind]; rfl
theorem kIt1_e : kIt1 tt te M ρ = ob (tt ρ M) (kIt2 te ρ) := rfl
theorem kIt2_t : kIt2 te ρ (true, M) = ob (te ρ M) kSome := rfl
theorem kIt2_f : kIt2 te ρ (false, M) = some (none, M) := rfl
theorem kSome_e : kSome (d, M) = some (some d, M) := rfl
theorem ev_Lc : fLc fi gt tt te vs ρ M = ob (fi ρ M) (kLc gt tt te vs ρ) := rfl
theorem kLc_e : kLc gt tt te vs ρ ((ds, gd), M) = ob (mapG gd (itemG gt tt te (wipeD ρ vs)) ds M) (kLc2 ds.length) := rfl
theorem kLc2_e : kLc2 n (ds, M) = if n ≤ 100000 then some (.rf M.length, M ++ [.lst ds]) else none := rfl
theorem ev_Yes : tYesD ρ M = some (true, M) := rfl
theorem finP_rt (h : D.lo 0 d = true) : finP (.rt d, M) = some d := by
  unfold finP D.imm
  dsimp only
  rw [if_pos h]
theorem finP_nx : finP (.nx ρ, M) = some .non := rfl
theorem mkP_e {n N : Nat} {b : FS} {ds : List D} {ρ : Rho} (h : D.los 0 ds = true) (hl : ds.length = n) (hs : startD N ds = ρ) : mkP n N b ds = ob (b ρ []) finP := by
  subst hs
  unfold mkP
  rw [if_pos ⟨h, hl⟩]
  rfl
theorem finM_rt : finM (.rt d, M) = some (d, M) := rfl
theorem finM_nx : finM (.nx ρ, M) = some (.non, M) := rfl
theorem mkM_e {n N : Nat} {b : FS} {ds : List D} {M : Mem} {ρ : Rho} (hl : ds.length = n) (hs : startD N ds = ρ) : mkM n N b ds M = ob (b ρ M) finM := by
  subst hs
  unfold mkM
  rw [if_pos hl]
  rfl
theorem mkG_e {n N : Nat} {b : FS} {ds : List D} {M : Mem} {ρ : Rho} (hl : ds.length = n) (hs : startD N ds = ρ) : mkG n N b ds M = ob (ob (b ρ M) finM) (kGc M.length) := by
  unfold mkG
  rw [mkM_e hl hs]
  unfold ob
  rw [Option.map_eq_bind]
  rfl
theorem kGc_e (p : D × Mem) : kGc n p = some (gc n p) := rfl
end
theorem mulE {i j : Int} (h : MulOk i j) (M : Mem) : gMul (.int i) (.int j) M = some (.int (i * j), M) := by
  simp only [gMul]
  rw [if_pos h]
theorem fdE {i j : Int} (h : j ≠ 0) (h' : Bt 9000 j) (M : Mem) : gFd (.int i) (.int j) M = some (.int (i.fdiv j), M) := by
  simp only [gFd]
  rw [if_pos ⟨h, h'⟩]
theorem modE {i j : Int} (h : j ≠ 0) (M : Mem) : gMod (.int i) (.int j) M = some (.int (i.fmod j), M) := by
  simp only [gMod]
  rw [if_pos h]
theorem addE (i j : Int) (M : Mem) : gAdd (.int i) (.int j) M = some (.int (i + j), M) := rfl
theorem subE (i j : Int) (M : Mem) : gSub (.int i) (.int j) M = some (.int (i - j), M) := rfl
theorem negE (i : Int) (M : Mem) : gNeg (.int i) M = some (.int (-i), M) := rfl
theorem cmpE (p : Int → Int → Bool) (i j : Int) (M : Mem) : gCmp p (.int i) (.int j) M = some (.bl (p i j), M) := rfl
theorem ixT (ds : List D) (i : Int) (M : Mem) : gIx (.tup ds) (.int i) M = ob (atI ds i) (kD M) := by
  simp only [gIx]
  unfold ob
  cases atI ds i <;> rfl
theorem ixR {M : Mem} {l : Nat} {ds : List D} (h : M[l]? = some (.lst ds)) (i : Int) : gIx (.rf l) (.int i) M = ob (atI ds i) fun d => some (d, M) := by
  simp only [gIx, h]
  unfold ob
  cases atI ds i <;> rfl
theorem truI (i : Int) (M : Mem) : gTru (.int i) M = some (i != 0) := rfl
theorem truB (b : Bool) (M : Mem) : gTru (.bl b) M = some b := rfl
theorem mul_bt {m n : Nat} {i j : Int} (hi : Bt m i) (hj : Bt n j) (h : m + n ≤ 134217728) : MulOk i j := ⟨m, n, hi, hj, h⟩
theorem at0 (a : D) (l : List D) : atI (a :: l) 0 = some a := by simp [atI, ixN]
theorem at1 (a b : D) (l : List D) : atI (a :: b :: l) 1 = some b := by simp [atI, ixN, show (1 : Int) < (l.length : Int) + 1 + 1 by omega]
theorem at2 (a b c : D) (l : List D) : atI (a :: b :: c :: l) 2 = some c := by simp [atI, ixN, show (2 : Int) < (l.length : Int) + 1 + 1 + 1 by omega]
theorem at3 (a b c d : D) (l : List D) : atI (a :: b :: c :: d :: l) 3 = some d := by simp [atI, ixN, show (3 : Int) < (l.length : Int) + 1 + 1 + 1 + 1 by omega]
theorem setE {M : Mem} {l : Nat} {ds : List D} {k : Int} {j : Nat} (h : M[l]? = some (.lst ds)) (hj : ixN ds.length k = some j) (d : D) : setAt (.rf l) (.int k) d M = some (M.set l (.lst (ds.set j d))) := by
  simp only [setAt, h, hj]
  rfl
theorem lenR {M : Mem} {l : Nat} {ds : List D} (h : M[l]? = some (.lst ds)) : bLen [.rf l] M = some (.int ds.length, M) := by
  simp only [bLen, seqOf, h]
  rfl
theorem lenT (ds : List D) (M : Mem) : bLen [.tup ds] M = some (.int ds.length, M) := rfl
theorem tupR {M : Mem} {l : Nat} {ds : List D} (h : M[l]? = some (.lst ds)) : bTuple [.rf l] M = some (.tup ds, M) := by
  simp only [bTuple, seqOf, h]
  rfl
theorem powE {i j : Int} (h : 0 ≤ j ∧ j ≤ 1000000 ∧ i.natAbs < 2 ^ 64) (M : Mem) : gPow (.int i) (.int j) M = some (.int (i ^ j.toNat), M) := by
  simp only [gPow]
  rw [if_pos h]
theorem atI_of {α : Type} {l : List α} {i : Int} {j : Nat} {a : α} (h : i = (j : Int)) (e : l[j]? = some a) : atI l i = some a := by
  subst h
  have hj : j < l.length := (List.getElem?_eq_some_iff.mp e).1
  have : (j : Int) < (l.length : Int) := by omega
  simp only [atI, ixN]
  rw [if_pos (by omega), if_pos this]
  simpa using e
theorem gc_e {n : Nat} {v : D} {M G : Mem} (hn : M.length = n) (hv : v.lo n = true) (hM : M.all (Cell.lo n) = true) : gc n (v, M ++ G) = (v, M) := by
  unfold gc
  have : (M ++ G).take n = M := by rw [← hn]; simp
  dsimp only
  rw [this, if_pos ⟨hv, hM⟩]
/-! what has no place in the memory at all -/
mutual
theorem D.lo_le {m n : Nat} (h : m ≤ n) : ∀ {d : D}, D.lo m d = true → D.lo n d = true
  | .non, _ => rfl
  | .bl _, _ => rfl
  | .int _, _ => rfl
  | .str _, _ => rfl
  | .ty _, _ => rfl
  | .fn _, _ => rfl
  | .tup ds, e => D.los_le h (ds := ds) e
  | .rol ds, e => D.los_le h (ds := ds) e
  | .rf i, e => by
    simp only [D.lo, decide_eq_true_eq] at e ⊢
    omega
theorem D.los_le {m n : Nat} (h : m ≤ n) : ∀ {ds : List D}, D.los m ds = true → D.los n ds = true
  | [], _ => rfl
  | _ :: _, e => by
    simp only [D.los, Bool.and_eq_true] at e ⊢
    exact ⟨D.lo_le h e.1, D.los_le h e.2⟩
end
theorem Cell.lo_le {m n : Nat} (h : m ≤ n) : ∀ {c : Cell}, Cell.lo m c = true → Cell.lo n c = true
  | .lst _, e => D.los_le h e
  | .dK _, e => D.los_le h e
  | .ins _ _, e => D.los_le h e
theorem los_ints (n : Nat) : ∀ ns : List Int, D.los n (ns.map D.int) = true
  | [] => rfl
  | _ :: ns => los_ints n ns
theorem absE (i : Int) (M : Mem) : bAbs [.int i] M = some (.int (if i < 0 then -i else i), M) := rfl
/-! ### lists in the memory -/
def lstAt (M : Mem) (l : Nat) : Option (List D) := match M[l]? with
  | some (.lst ds) => some ds
  | _ => none
theorem lstAt_of {M : Mem} {l : Nat} {ds : List D} (h : M[l]? = some (.lst ds)) : lstAt M l = some ds := by
  unfold lstAt
  rw [h]
theorem of_lstAt {M : Mem} {l : Nat} {ds : List D} (h : lstAt M l = some ds) : M[l]? = some (.lst ds) := by
  unfold lstAt at h
  split at h
  · cases h
    assumption
  · cases h
theorem lstAt_zero (ds : List D) (C : Mem) : lstAt (.lst ds :: C) 0 = some ds := rfl
theorem lstAt_succ (c : Cell) (C : Mem) (n : Nat) : lstAt (c :: C) (n + 1) = lstAt C n := rfl
section
variable (l : Nat) (i : Int) (M : Mem) (d : D)
theorem ixRf : gIx (.rf l) (.int i) M = ob (lstAt M l) fun ds => ob (atI ds i) fun d => some (d, M) := by
  simp only [gIx, lstAt, ob]
  cases M[l]? with
  | none => rfl
  | some c =>
    cases c with
    | lst ds => cases h : atI ds i <;> simp [h]
    | _ => rfl
theorem tupRf : bTuple [.rf l] M = ob (lstAt M l) fun ds => some (.tup ds, M) := by
  simp only [bTuple, seqOf, lstAt, ob]
  cases M[l]? with
  | none => rfl
  | some c => cases c <;> rfl
theorem lenRf : bLen [.rf l] M = ob (lstAt M l) fun ds => some (.int ds.length, M) := by
  simp only [bLen, seqOf, lstAt, ob]
  cases M[l]? with
  | none => rfl
  | some c => cases c <;> rfl
theorem listRf : bList [.rf l] M = ob (lstAt M l) fun ds => some (.rf M.length, M ++ [.lst ds]) := by
  simp only [bList, seqOf, lstAt, ob]
  cases M[l]? with
  | none => rfl
  | some c => cases c <;> rfl
theorem isLstRf : isLst (.rf l) M = (lstAt M l).isSome := by
  simp only [isLst, lstAt]
  cases M[l]? with
  | none => rfl
  | some c => cases c <;> rfl
theorem appRf : mApp (.rf l) [d] M = ob (lstAt M l) fun ds => if ds.length < 100000 then some (.non, M.set l (.lst (ds ++ [d]))) else none := by
  simp only [mApp, lstAt, ob]
  cases M[l]? with
  | none => rfl
  | some c => cases c <;> rfl
theorem revRf : mRev (.rf l) [] M = ob (lstAt M l) fun ds => some (.non, M.set l (.lst ds.reverse)) := by
  simp only [mRev, lstAt, ob]
  cases M[l]? with
  | none => rfl
  | some c => cases c <;> rfl
theorem setRf : setAt (.rf l) (.int i) d M = ob (lstAt M l) fun ds => ob (ixN ds.length i) fun j => some (M.set l (.lst (ds.set j d))) := by
  simp only [setAt, lstAt, ob]
  cases M[l]? with
  | none => rfl
  | some c =>
    cases c with
    | lst ds => cases h : ixN ds.length i <;> simp [h]
    | _ => rfl
theorem itemsRf : itemsOf (.rf l) M = ob (lstAt M l) fun ds => some (ds, fun M' => M'[l]? = some (.lst ds)) := by
  simp only [itemsOf, lstAt, ob]
  cases M[l]? with
  | none => rfl
  | some c => cases c <;> rfl
theorem itemsT (ds : List D) : itemsOf (.tup ds) M = some (ds, fun _ => True) := rfl
theorem itemsL (ds : List D) : itemsOf (.rol ds) M = some (ds, fun _ => True) := rfl
theorem zipT (ds es : List D) : zipOf (.tup ds) (.tup es) M = some (pairs ds es, fun _ => True) := rfl
theorem zipRf (j : Nat) : zipOf (.rf l) (.rf j) M = ob (lstAt M l) fun ds => ob (lstAt M j) fun es => some (pairs ds es, fun M' => M'[l]? = some (.lst ds) ∧ M'[j]? = some (.lst es)) := by
  simp only [zipOf, lstAt, ob]
  cases M[l]? with
  | none => rfl
  | some c =>
    cases c <;> cases M[j]? with
      | none => rfl
      | some c => cases c <;> rfl
theorem allRf : bAll [.rf l] M = ob (lstAt M l) fun ds => ob (D.bls ds) fun bs => some (.bl (bs.all id), M) := by
  simp only [bAll, lstOf, lstAt, ob]
  cases M[l]? with
  | none => rfl
  | some c =>
    cases c with
    | lst ds => cases h : D.bls ds <;> simp [h]
    | _ => rfl
theorem anyRf : bAny [.rf l] M = ob (lstAt M l) fun ds => ob (D.bls ds) fun bs => some (.bl (bs.any id), M) := by
  simp only [bAny, lstOf, lstAt, ob]
  cases M[l]? with
  | none => rfl
  | some c =>
    cases c with
    | lst ds => cases h : D.bls ds <;> simp [h]
    | _ => rfl
theorem sumRf : bSum [.rf l] M = ob (lstAt M l) fun ds => ob (D.ints ds) fun ns => some (.int ns.sum, M) := by
  simp only [bSum, lstOf, lstAt, ob]
  cases M[l]? with
  | none => rfl
  | some c =>
    cases c with
    | lst ds => cases h : D.ints ds <;> simp [h]
    | _ => rfl
theorem tupT (ds : List D) : bTuple [.tup ds] M = some (.tup ds, M) := rfl
theorem slRf (lo hi : Option Int) : gSl (.rf l) lo hi M = ob (lstAt M l) fun ds => some (.rf M.length, M ++ [.lst (cutD ds lo hi)]) := by
  simp only [gSl, lstAt, ob]
  cases M[l]? with
  | none => rfl
  | some c => cases c <;> rfl
theorem isiE (T : String) : bIsi [d, .ty T] M = ob (tyOf d M) fun t => ob (kitB t T) fun b => some (.bl b, M) := by
  simp only [bIsi, ob]
  cases tyOf d M with
  | none => rfl
  | some t => cases h : kitB t T <;> simp [h]
theorem t2E (T1 T2 : String) : gT2 T1 T2 d M = ob (tyOf d M) fun t => ob (kitB t T1) fun a => ob (kitB t T2) fun b => some (.bl (a || b), M) := by
  simp only [gT2, ob]
  cases tyOf d M with
  | none => rfl
  | some t =>
    simp only [Option.bind_some]
    cases kitB t T1 with
    | none => rfl
    | some a => cases h : kitB t T2 <;> simp [h]
end
theorem ixn_1 {n : Nat} (h : 0 < n) : ixN n 0 = some 0 := by
  unfold ixN
  rw [if_pos (by decide), if_pos (by omega)]
  rfl
/-! ### further statements and objects -/
def par3 (i j l : Nat) (ρ : Rho) (p : List D × Mem) : Option (Fl × Mem) := match p.1 with
  | [d, e, f] => some (.nx (((ρ.set i (some d)).set j (some e)).set l (some f)), p.2)
  | _ => none
def kAs2 (g : FG) (p : D × Mem) (ρ : Rho) : Option (Fl × Mem) := ob (g p.1 ρ) (kNx p.2)
def kAs3 (g1 g2 : FG) (ρ : Rho) (p : D × Mem) : Option (Fl × Mem) := ob (g1 p.1 ρ) (kAs2 g2 p)
def kAs4 (g3 g4 : FG) (p : D × Mem) (ρ : Rho) : Option (Fl × Mem) := ob (g3 p.1 ρ) (kAs2 g4 p)
def kAs5 (g2 g3 g4 : FG) (p : D × Mem) (ρ : Rho) : Option (Fl × Mem) := ob (g2 p.1 ρ) (kAs4 g3 g4 p)
def kAs6 (g1 g2 g3 g4 : FG) (ρ : Rho) (p : D × Mem) : Option (Fl × Mem) := ob (g1 p.1 ρ) (kAs5 g2 g3 g4 p)
def kCV (fa : FA) (ρ : Rho) (M : Mem) (m : List D → Option D) : Option (D × Mem) := fCP m fa ρ M
def kFld2 (cs : Nat → Bool) (f : Str) (ρ : Rho) (d : D) (p : D × Mem) : Option (Fl × Mem) := ob (setF cs f p.1 d p.2) (kNxM ρ)
def kFld1 (cs : Nat → Bool) (f : Str) (fo : FE) (ρ : Rho) (p : D × Mem) : Option (Fl × Mem) := ob (fo ρ p.2) (kFld2 cs f ρ p.1)
def kMk2 (n : Nat) (p : D × Mem) : Option (D × Mem) := match p.1 with
  | .non => some (.rf n, p.2)
  | _ => none
def kMk (c : Nat) (init : GL) (p : List D × Mem) : Option (D × Mem) := ob (init (.rf p.2.length :: p.1) (p.2 ++ [.ins c []])) (kMk2 p.2.length)
def kMt3 (o : D) (g : GL) (p : List D × Mem) : Option (D × Mem) := g (o :: p.1) p.2
def kMt2 (fa : FA) (ρ : Rho) (o : D × Mem) (g : GL) : Option (D × Mem) := ob (fa ρ o.2) (kMt3 o.1 g)
def kMt (tbl : Nat → Option GL) (m : Str) (fa : FA) (ρ : Rho) (o : D × Mem) : Option (D × Mem) := ob (metOf tbl m o.1 o.2) (kMt2 fa ρ o)
section
variable (ρ : Rho) (M : Mem) (i j l n c : Nat) (d e f o : D) (ds : List D) (fa fb : FE) (fr : FA) (g1 g2 g3 g4 : FG) (x : Str) (cs : Nat → Bool) (tbl : Nat → Option GL) (gl : GL)
theorem ev_Par3 : sPar3 i j l fr ρ M = ob (fr ρ M) (par3 i j l ρ) := rfl
theorem par3_e : par3 i j l ρ ([d, e, f], M) = some (.nx (((ρ.set i (some d)).set j (some e)).set l (some f)), M) := rfl
theorem ev_As2 : sAs2 fa g1 g2 ρ M = ob (fa ρ M) (kAs3 g1 g2 ρ) := by
  unfold sAs2 ob
  cases fa ρ M with
  | none => rfl
  | some p =>
    show ((g1 p.1 ρ).bind _) = ob (g1 p.1 ρ) _
    unfold ob
    cases g1 p.1 ρ with
    | none => rfl
    | some r =>
      show (g2 p.1 r).map _ = ob (g2 p.1 r) _
      unfold ob
      rw [Option.map_eq_bind]
      rfl
theorem ev_As4 : sAs4 fa g1 g2 g3 g4 ρ M = ob (fa ρ M) (kAs6 g1 g2 g3 g4 ρ) := by
  unfold sAs4 ob
  cases fa ρ M with
  | none => rfl
  | some p =>
    show ((g1 p.1 ρ).bind _) = ob (g1 p.1 ρ) _
    unfold ob
    cases g1 p.1 ρ with
    | none => rfl
    | some r =>
      show ((g2 p.1 r).bind _) = ob (g2 p.1 r) _
      unfold ob
      cases g2 p.1 r with
      | none => rfl
      | some r =>
        show ((g3 p.1 r).bind _) = ob (g3 p.1 r) _
        unfold ob
        cases g3 p.1 r with
        | none => rfl
        | some r =>
          show (g4 p.1 r).map _ = ob (g4 p.1 r) _
          unfold ob
          rw [Option.map_eq_bind]
          rfl
theorem kAs2_e : kAs2 g1 (d, M) ρ = ob (g1 d ρ) (kNx M) := rfl
theorem kAs3_e : kAs3 g1 g2 ρ (d, M) = ob (g1 d ρ) (kAs2 g2 (d, M)) := rfl
theorem kAs4_e : kAs4 g3 g4 (d, M) ρ = ob (g3 d ρ) (kAs2 g4 (d, M)) := rfl
theorem kAs5_e : kAs5 g2 g3 g4 (d, M) ρ = ob (g2 d ρ) (kAs4 g3 g4 (d, M)) := rfl
theorem kAs6_e : kAs6 g1 g2 g3 g4 ρ (d, M) = ob (g1 d ρ) (kAs5 g2 g3 g4 (d, M)) := rfl
theorem ev_CV (tb : Nat → Option (List D → Option D)) : fCV tb i fr ρ M = ob (fnOf2 tb i ρ) (kCV fr ρ M) := rfl
theorem kCV_e (m : List D → Option D) : kCV fr ρ M m = fCP m fr ρ M := rfl
def fnV (tb : Nat → Option (List D → Option D)) : Option (Option D) → Option (List D → Option D)
  | some (some (.fn n)) => tb n
  | _ => none
theorem fnOf2_e (tb : Nat → Option (List D → Option D)) : fnOf2 tb i ρ = fnV tb ρ[i]? := rfl
theorem fnV_e (tb : Nat → Option (List D → Option D)) : fnV tb (some (some (.fn n))) = tb n := rfl
theorem ev_Fld : sFldD cs x fa fb ρ M = ob (fa ρ M) (kFld1 cs x fb ρ) := by
  unfold sFldD ob
  cases fa ρ M with
  | none => rfl
  | some p =>
    show ((fb ρ p.2).bind _) = ob (fb ρ p.2) _
    unfold ob
    cases fb ρ p.2 with
    | none => rfl
    | some q =>
      show (setF _ _ _ _ _).map _ = ob (setF _ _ _ _ _) _
      unfold ob
      rw [Option.map_eq_bind]
      rfl
theorem kFld1_e : kFld1 cs x fb ρ (d, M) = ob (fb ρ M) (kFld2 cs x ρ d) := rfl
theorem kFld2_e : kFld2 cs x ρ d (e, M) = ob (setF cs x e d M) (kNxM ρ) := rfl
theorem ev_Mk : fMk c gl fr ρ M = ob (fr ρ M) (kMk c gl) := rfl
theorem kMk_e : kMk c gl (ds, M) = ob (gl (.rf M.length :: ds) (M ++ [.ins c []])) (kMk2 M.length) := rfl
theorem kMk2_e : kMk2 n (.non, M) = some (.rf n, M) := rfl
theorem ev_Mk0 : fMk0 c ρ M = some (.rf M.length, M ++ [.ins c []]) := rfl
theorem ev_Mt : fMt tbl x fa fr ρ M = ob (fa ρ M) (kMt tbl x fr ρ) := rfl
theorem kMt_e : kMt tbl x fr ρ (o, M) = ob (metOf tbl x o M) (kMt2 fr ρ (o, M)) := rfl
theorem kMt2_e : kMt2 fr ρ (o, M) gl = ob (fr ρ M) (kMt3 o gl) := rfl
theorem kMt3_e : kMt3 o gl (ds, M) = gl (o :: ds) M := rfl
theorem gFldE : gFld cs x (.rf i) M = ob (insAt M i) fun p => if cs p.1 = true then ob (p.2.lookup x) (kD M) else none := by
  simp only [gFld, ob]
  cases insAt M i with
  | none => rfl
  | some p =>
    simp only [Option.bind_some]
    cases h : p.2.lookup x <;> simp [kD]
theorem setFE : setF cs x (.rf i) d M = ob (insAt M i) fun p => if cs p.1 = true ∧ p.2.length < 500 then some (M.set i (.ins p.1 (putD x d p.2))) else none := rfl
theorem metE : metOf tbl x (.rf i) M = ob (insAt M i) fun p => if p.2.lookup x = none then tbl p.1 else none := rfl
theorem insAt_zero (fs : List (Str × D)) (C : Mem) : insAt (.ins c fs :: C) 0 = some (c, fs) := rfl
theorem insAt_succ (k : Cell) (C : Mem) : insAt (k :: C) (n + 1) = insAt C n := rfl
end

/-! ### further rules by which the mirror runs -/
noncomputable def kForM (g : FM) (b : FS) (ρ : Rho) (p : Src × Mem) : Option (Fl × Mem) := runG p.1.2 (bodyM g b) p.1.1 ρ p.2
def kAsgM (g : FM) (ρ : Rho) (p : D × Mem) : Option (Fl × Mem) := ob (g p.1 p.2 ρ) (kNx p.2)
section
variable (ρ : Rho) (M : Mem) (d : D) (ds : List D) (n j : Nat) (g : FM) (gs : FGs) (sb : FS) (fi : FI) (fa : FE) (gd : Mem → Prop)
theorem ev_ForM : sForM fi g sb ρ M = ob (fi ρ M) (kForM g sb ρ) := rfl
theorem kForM_e : kForM g sb ρ ((ds, gd), M) = runG gd (bodyM g sb) ds ρ M := rfl
theorem ev_bodyM : bodyM g sb d ρ M = ob (g d M ρ) (kBody sb M) := rfl
theorem ev_gTmT : gTm n gs (.tup ds) M ρ = if ds.length = n then gs ds ρ else none := rfl
theorem ev_gTmR : gTm n gs (.rf j) M ρ = ob (lstAt M j) fun ds => if ds.length = n then gs ds ρ else none := by
  simp only [gTm, lstAt, ob]
  cases M[j]? with
  | none => rfl
  | some c => cases c <;> rfl
theorem ev_AsgM : sAsgM fa g ρ M = ob (fa ρ M) (kAsgM g ρ) := by
  unfold sAsgM ob kAsgM
  cases fa ρ M with
  | none => rfl
  | some p => simp only [Option.bind_some, ob, Option.map_eq_bind]; rfl
theorem kAsgM_e : kAsgM g ρ (d, M) = ob (g d M ρ) (kNx M) := rfl
end
/-! ### what comes of it -/
def W {α : Type} (x : Option α) (Q : α → Prop) : Prop := ∃ y, x = some y ∧ Q y
theorem W.ret {α : Type} {y : α} {Q : α → Prop} (h : Q y) : W (some y) Q := ⟨y, rfl, h⟩
theorem W.cut {α β : Type} {x : Option α} {f : α → Option β} {Q : β → Prop} (R : α → Prop) (h : W x R) (k : ∀ y, R y → W (f y) Q) : W (ob x f) Q := by
  obtain ⟨y, e, r⟩ := h
  obtain ⟨z, e2, q⟩ := k y r
  exact ⟨z, by rw [e]; exact e2, q⟩
theorem W.mono {α : Type} {x : Option α} {P Q : α → Prop} (h : W x P) (k : ∀ y, P y → Q y) : W x Q := by
  obtain ⟨y, e, r⟩ := h
  exact ⟨y, e, k y r⟩
theorem W.eq {α : Type} {x : Option α} {y : α} {Q : α → Prop} (e : x = some y) (h : Q y) : W x Q := ⟨y, e, h⟩
/-- a loop by what holds between two turns, with a count -/
theorem W.run {gd : Mem → Prop} {body : D → Rho → Mem → Option (Fl × Mem)} {Q : Fl × Mem → Prop} {f : Fl × Mem → Option (Fl × Mem)} (I : Nat → Rho → Mem → Prop) {ds : List D} {ρ : Rho} {M : Mem} (h0 : I 0 ρ M) (hg : ∀ i ρ M, I i ρ M → gd M)
    (step : ∀ (j : Nat) (d : D), ds[j]? = some d → ∀ ρ M, I j ρ M → W (body d ρ M) fun y => ∃ ρ' M', y = (.nx ρ', M') ∧ I (j + 1) ρ' M') (k : ∀ ρ' M', I ds.length ρ' M' → W (f (.nx ρ', M')) Q) : W (ob (runG gd body ds ρ M) f) Q := by
  have key : ∀ (l : List D) (n : Nat) (ρ : Rho) (M : Mem), (∀ (j : Nat) (d : D), l[j]? = some d → ds[n + j]? = some d) → I n ρ M → ∃ ρ' M', runG gd body l ρ M = some (.nx ρ', M') ∧ I (n + l.length) ρ' M' := by
    intro l
    induction l with
    | nil => exact fun n ρ M _ i => ⟨ρ, M, runG_nil _ _ _ _ (hg n ρ M i), i⟩
    | cons d l ih =>
      intro n ρ M hl i
      obtain ⟨y, e, ρ1, M1, rfl, i1⟩ := step n d (hl 0 d rfl) ρ M i
      obtain ⟨ρ2, M2, e2, i2⟩ := ih (n + 1) ρ1 M1 (fun j d' hd => by
        have := hl (j + 1) d' (by simpa using hd)
        rw [show n + (j + 1) = n + 1 + j by omega] at this
        exact this) i1
      exact ⟨ρ2, M2, by rw [runG_cons _ _ _ _ _ _ (hg n ρ M i), e]; exact e2, by rw [List.length_cons, show n + (l.length + 1) = n + 1 + l.length by omega]; exact i2⟩
  obtain ⟨ρ', M', e, i⟩ := key ds 0 ρ M (fun j d hd => by simpa using hd) h0
  rw [Nat.zero_add] at i
  obtain ⟨z, e2, q⟩ := k ρ' M' i
  exact ⟨z, by rw [e]; exact e2, q⟩
/-- a list that stands behind the deck's own part -/
def Live (n : Nat) (rest : Mem) (r : Nat) (P : List D) : Prop := ∃ i, r = n + i ∧ rest[i]? = some (.lst P)
theorem Live.app {n r : Nat} {rest : Mem} {P : List D} (h : Live n rest r P) (C : Mem) : Live n (rest ++ C) r P := by
  obtain ⟨i, e, q⟩ := h
  exact ⟨i, e, by rw [List.getElem?_append_left (List.getElem?_eq_some_iff.mp q).1]; exact q⟩
theorem Live.get {n r : Nat} {rest A : Mem} {P : List D} (h : Live n rest r P) (hA : A.length = n) : (A ++ rest)[r]? = some (.lst P) := by
  obtain ⟨i, rfl, q⟩ := h
  rw [List.getElem?_append_right (by omega), ← hA, Nat.add_sub_cancel_left]
  exact q
theorem Live.at {n r : Nat} {rest A : Mem} {P : List D} (h : Live n rest r P) (hA : A.length = n) : lstAt (A ++ rest) r = some P := lstAt_of (h.get hA)
theorem Live.new {n : Nat} {rest : Mem} {P : List D} (C : Mem) : Live n (rest ++ .lst P :: C) (n + rest.length) P := ⟨rest.length, rfl, by simp⟩
theorem Live.lt {n r : Nat} {rest : Mem} {P : List D} (h : Live n rest r P) : r < n + rest.length := by
  obtain ⟨i, rfl, q⟩ := h
  have := (List.getElem?_eq_some_iff.mp q).1
  omega
/-- it is written -/
theorem Live.set {n r : Nat} {rest A : Mem} {P P' : List D} (h : Live n rest r P) (hA : A.length = n) : ∃ rest', (A ++ rest).set r (.lst P') = A ++ rest' ∧ Live n rest' r P' ∧ ∀ q, (Cell.lst P').lo q = true → rest.all (Cell.lo q) = true → rest'.all (Cell.lo q) = true := by
  obtain ⟨i, rfl, q⟩ := h
  have hi := (List.getElem?_eq_some_iff.mp q).1
  refine ⟨rest.set i (.lst P'), ?_, ⟨i, rfl, List.getElem?_set_self hi⟩, fun m hm ha => ?_⟩
  · rw [List.set_append_right _ _ (by omega), ← hA, Nat.add_sub_cancel_left]
  · rw [List.all_eq_true] at ha ⊢
    intro c hc
    rcases List.mem_or_eq_of_mem_set hc with hc | rfl
    · exact ha c hc
    · exact hm
theorem atB {A rest : Mem} {n : Nat} (h : A.length = n) (X : Mem) (i : Nat) : lstAt (A ++ (rest ++ X)) (n + (rest.length + i)) = lstAt X i := by
  unfold lstAt
  rw [← List.append_assoc, List.getElem?_append_right (by rw [List.length_append]; omega), List.length_append, show n + (rest.length + i) - (A.length + rest.length) = i by omega]
theorem atB0 {A rest : Mem} {n : Nat} (h : A.length = n) (X : Mem) : lstAt (A ++ (rest ++ X)) (n + rest.length) = lstAt X 0 := atB h X 0
theorem setB {A rest : Mem} {n : Nat} (h : A.length = n) (X : Mem) (i : Nat) (c : Cell) : (A ++ (rest ++ X)).set (n + (rest.length + i)) c = A ++ (rest ++ X.set i c) := by
  rw [List.set_append_right _ _ (by omega), List.set_append_right _ _ (by omega), show n + (rest.length + i) - A.length - rest.length = i by omega]
theorem setB0 {A rest : Mem} {n : Nat} (h : A.length = n) (X : Mem) (c : Cell) : (A ++ (rest ++ X)).set (n + rest.length) c = A ++ (rest ++ X.set 0 c) := setB h X 0 c
theorem getB {A rest : Mem} {n : Nat} (h : A.length = n) (X : Mem) (i : Nat) : (A ++ (rest ++ X))[n + (rest.length + i)]? = X[i]? := by
  rw [← List.append_assoc, List.getElem?_append_right (by rw [List.length_append]; omega), List.length_append, show n + (rest.length + i) - (A.length + rest.length) = i by omega]
theorem getB0 {A rest : Mem} {n : Nat} (h : A.length = n) (X : Mem) : (A ++ (rest ++ X))[n + rest.length]? = X[0]? := getB h X 0
/-- lists walked, by what the memory has there -/
theorem mapC_cons {l : Nat} {xs : List D} {M : Mem} (it : D → Mem → Option (Option D × Mem)) (d : D) (ds : List D) (h : M[l]? = some (.lst xs)) : mapG (fun M' => M'[l]? = some (.lst xs)) it (d :: ds) M = ob (it d M) (kMap (fun M' => M'[l]? = some (.lst xs)) it ds) := mapG_cons (h := h) ..
theorem mapC_nil {l : Nat} {xs : List D} {M : Mem} (it : D → Mem → Option (Option D × Mem)) (h : M[l]? = some (.lst xs)) : mapG (fun M' => M'[l]? = some (.lst xs)) it [] M = some ([], M) := mapG_nil (h := h) ..
theorem runC_cons {l : Nat} {xs : List D} {M : Mem} (body : D → Rho → Mem → Option (Fl × Mem)) (d : D) (ds : List D) (ρ : Rho) (h : M[l]? = some (.lst xs)) : runG (fun M' => M'[l]? = some (.lst xs)) body (d :: ds) ρ M = ob (body d ρ M) (turn (runG (fun M' => M'[l]? = some (.lst xs)) body ds)) := runG_cons (h := h) ..
theorem runC_nil {l : Nat} {xs : List D} {M : Mem} (body : D → Rho → Mem → Option (Fl × Mem)) (ρ : Rho) (h : M[l]? = some (.lst xs)) : runG (fun M' => M'[l]? = some (.lst xs)) body [] ρ M = some (.nx ρ, M) := runG_nil (h := h) ..

/-! ### rules of what s8 brings -/
def kSt3 (ds : List D) (p : List D × Mem) : Option (List D × Mem) := some (ds ++ p.1, p.2)
def kSt2 (fr : FA) (ρ : Rho) (M : Mem) (ds : List D) : Option (List D × Mem) := ob (fr ρ M) (kSt3 ds)
def kSt1 (fr : FA) (ρ : Rho) (p : D × Mem) : Option (List D × Mem) := ob (seqOf p.1 p.2) (kSt2 fr ρ p.2)
def kDc (tab : List (Str × Int)) (p : D × Mem) : Option (D × Mem) := match p.1 with
  | .str z => (tab.lookup z).map fun i => (.int i, p.2)
  | _ => none
def kRv (p : D × Mem) : Option (Src × Mem) := ob (revOf p.1 p.2) (kSrc p.2)
section
variable (ρ : Rho) (M : Mem) (d x y : D) (ds es : List D) (l : Nat) (i : Int) (fe fk : FE) (fr : FA) (tab : List (Str × Int)) (z : Str)
theorem ev_Star : fStar fe fr ρ M = ob (fe ρ M) (kSt1 fr ρ) := rfl
theorem kSt1_e : kSt1 fr ρ (d, M) = ob (seqOf d M) (kSt2 fr ρ M) := rfl
theorem kSt2_e : kSt2 fr ρ M ds = ob (fr ρ M) (kSt3 ds) := rfl
theorem kSt3_e : kSt3 ds (es, M) = some (ds ++ es, M) := rfl
theorem seqT : seqOf (.tup ds) M = some ds := rfl
theorem seqRf : seqOf (.rf l) M = lstAt M l := by
  cases h : M[l]? with
  | none => simp [seqOf, lstAt, h]
  | some c => cases c <;> simp [seqOf, lstAt, h]
theorem popRf : mPop (.rf l) [] M = ob (lstAt M l) fun ds => ob ds[ds.length - 1]? fun d => some (d, M.set l (.lst ds.dropLast)) := by
  simp only [mPop, lstAt, ob]
  cases M[l]? with
  | none => rfl
  | some c =>
    cases c with
    | lst ds => cases h : ds[ds.length - 1]? <;> simp [h]
    | _ => rfl
theorem insRf : mIns (.rf l) [.int i, d] M = ob (lstAt M l) fun ds => if ds.length < 100000 ∧ 0 ≤ i ∧ i < 100000 then some (.non, M.set l (.lst (ds.take i.toNat ++ [d] ++ ds.drop i.toNat))) else none := by
  simp only [mIns, lstAt, ob]
  cases M[l]? with
  | none => rfl
  | some c => cases c <;> rfl
theorem inE : gIn x y M = ob (seqOf y M) fun ds => if x.flat = true ∧ ds.all D.flat = true then some (.bl (ds.any fun y => y.eqFl x), M) else none := rfl
theorem notInE : gNotIn x y M = ob (seqOf y M) fun ds => if x.flat = true ∧ ds.all D.flat = true then some (.bl (!ds.any fun y => y.eqFl x), M) else none := rfl
theorem ev_Dc : fDc tab fk ρ M = ob (fk ρ M) (kDc tab) := rfl
theorem kDc_e : kDc tab (.str z, M) = ob (tab.lookup z) fun i => some (.int i, M) := by
  simp only [kDc, ob, Option.map_eq_bind]
  rfl
theorem ev_iRv : iRv fe ρ M = ob (fe ρ M) kRv := by
  unfold iRv ob kRv
  cases fe ρ M with
  | none => rfl
  | some p => simp only [Option.bind_some, ob, Option.map_eq_bind]; rfl
theorem kRv_e : kRv (d, M) = ob (revOf d M) (kSrc M) := rfl
theorem revT : revOf (.tup ds) M = some (ds.reverse, fun _ => True) := rfl
theorem revL : revOf (.rf l) M = ob (lstAt M l) fun ds => some (ds.reverse, fun M' => M'[l]? = some (.lst ds)) := by
  simp only [revOf, lstAt, ob]
  cases M[l]? with
  | none => rfl
  | some c => cases c <;> rfl
end

def at_below : Nat → Bool
  | 1 => true
  | _ => false
def at_under : Nat → Bool
  | 1 => true
  | _ => false
noncomputable def b_frac : FS :=
  (sSeq (sPar 2 3 (fCons (fV 1) (fCons (fO gMod (fV 0) (fV 1)) fNil)))
    (sSeq (sWhile (tTr (fV 3)) (sPar 2 3 (fCons (fV 3) (fCons (fO gMod (fV 2) (fV 3)) fNil))))
    (sRet (fTup (fCons (fO gFd (fV 0) (fV 2)) (fCons (fO gFd (fV 1) (fV 2)) fNil))))))
noncomputable def m_frac : List D → Option D := mkP 2 4 b_frac
theorem lo_frac (ds : List D) (d : D) : m_frac ds = some d → D.los 0 ds = true ∧ ds.length = 2 := mkP_lo
theorem e_frac (d0 d1 : D) (h : D.los 0 [d0, d1] = true) : m_frac [d0, d1] = ob (b_frac [some d0, some d1, none, none] []) finP := mkP_e h rfl rfl
noncomputable def b_plus : FS :=
  (sRet (fCP m_frac (fCons (fO gAdd (fO gMul (fO gIx (fV 0) (fC (.int 0))) (fO gIx (fV 1) (fC (.int 1)))) (fO gMul (fO gIx (fV 1) (fC (.int 0))) (fO gIx (fV 0) (fC (.int 1))))) (fCons (fO gMul (fO gIx (fV 0) (fC (.int 1))) (fO gIx (fV 1) (fC (.int 1)))) fNil))))
noncomputable def m_plus : List D → Option D := mkP 2 2 b_plus
theorem lo_plus (ds : List D) (d : D) : m_plus ds = some d → D.los 0 ds = true ∧ ds.length = 2 := mkP_lo
theorem e_plus (d0 d1 : D) (h : D.los 0 [d0, d1] = true) : m_plus [d0, d1] = ob (b_plus [some d0, some d1] []) finP := mkP_e h rfl rfl
noncomputable def b_minus : FS :=
  (sRet (fCP m_frac (fCons (fO gSub (fO gMul (fO gIx (fV 0) (fC (.int 0))) (fO gIx (fV 1) (fC (.int 1)))) (fO gMul (fO gIx (fV 1) (fC (.int 0))) (fO gIx (fV 0) (fC (.int 1))))) (fCons (fO gMul (fO gIx (fV 0) (fC (.int 1))) (fO gIx (fV 1) (fC (.int 1)))) fNil))))
noncomputable def m_minus : List D → Option D := mkP 2 2 b_minus
theorem lo_minus (ds : List D) (d : D) : m_minus ds = some d → D.los 0 ds = true ∧ ds.length = 2 := mkP_lo
theorem e_minus (d0 d1 : D) (h : D.los 0 [d0, d1] = true) : m_minus [d0, d1] = ob (b_minus [some d0, some d1] []) finP := mkP_e h rfl rfl
noncomputable def b_times : FS :=
  (sRet (fCP m_frac (fCons (fO gMul (fO gIx (fV 0) (fC (.int 0))) (fO gIx (fV 1) (fC (.int 0)))) (fCons (fO gMul (fO gIx (fV 0) (fC (.int 1))) (fO gIx (fV 1) (fC (.int 1)))) fNil))))
noncomputable def m_times : List D → Option D := mkP 2 2 b_times
theorem lo_times (ds : List D) (d : D) : m_times ds = some d → D.los 0 ds = true ∧ ds.length = 2 := mkP_lo
theorem e_times (d0 d1 : D) (h : D.los 0 [d0, d1] = true) : m_times [d0, d1] = ob (b_times [some d0, some d1] []) finP := mkP_e h rfl rfl
noncomputable def b_over : FS :=
  (sRet (fCP m_frac (fCons (fO gMul (fO gIx (fV 0) (fC (.int 0))) (fO gIx (fV 1) (fC (.int 1)))) (fCons (fO gMul (fO gIx (fV 0) (fC (.int 1))) (fO gIx (fV 1) (fC (.int 0)))) fNil))))
noncomputable def m_over : List D → Option D := mkP 2 2 b_over
theorem lo_over (ds : List D) (d : D) : m_over ds = some d → D.los 0 ds = true ∧ ds.length = 2 := mkP_lo
theorem e_over (d0 d1 : D) (h : D.los 0 [d0, d1] = true) : m_over [d0, d1] = ob (b_over [some d0, some d1] []) finP := mkP_e h rfl rfl
noncomputable def b_sign : FS :=
  (sSeq (sIf (tV (fO gLt (fO gIx (fV 0) (fC (.int 0))) (fC (.int 0)))) (sRet (fU gNeg (fC (.int 1)))) sNext)
    (sSeq (sIf (tV (fO gGt (fO gIx (fV 0) (fC (.int 0))) (fC (.int 0)))) (sRet (fC (.int 1))) sNext)
    (sRet (fC (.int 0)))))
noncomputable def m_sign : List D → Option D := mkP 1 1 b_sign
theorem lo_sign (ds : List D) (d : D) : m_sign ds = some d → D.los 0 ds = true ∧ ds.length = 1 := mkP_lo
theorem e_sign (d0 : D) (h : D.los 0 [d0] = true) : m_sign [d0] = ob (b_sign [some d0] []) finP := mkP_e h rfl rfl
noncomputable def b_dot : FS :=
  (sSeq (sAsg (fTup (fCons (fC (.int 0)) (fCons (fC (.int 1)) fNil))) (gT 2 (gsCons (gN 2) (gsCons (gN 3) gsNil))))
    (sSeq (sFor (iZ (fV 0) (fV 1)) (gT 2 (gsCons (gN 4) (gsCons (gN 5) gsNil))) (sSeq (sAsg (fO gMul (fO gIx (fV 4) (fC (.int 1))) (fO gIx (fV 5) (fC (.int 1)))) (gN 6))
    (sSeq (sAsg (fO gAdd (fO gMul (fV 2) (fV 6)) (fO gMul (fO gMul (fO gIx (fV 4) (fC (.int 0))) (fO gIx (fV 5) (fC (.int 0)))) (fV 3))) (gN 2))
    (sAsg (fO gMul (fV 3) (fV 6)) (gN 3)))))
    (sRet (fCP m_frac (fCons (fV 2) (fCons (fV 3) fNil))))))
noncomputable def m_dot : List D → Option D := mkP 2 7 b_dot
theorem lo_dot (ds : List D) (d : D) : m_dot ds = some d → D.los 0 ds = true ∧ ds.length = 2 := mkP_lo
theorem e_dot (d0 d1 : D) (h : D.los 0 [d0, d1] = true) : m_dot [d0, d1] = ob (b_dot [some d0, some d1, none, none, none, none, none] []) finP := mkP_e h rfl rfl
noncomputable def b_together : FS :=
  (sRet (fTup (fCons (fCP m_plus (fCons (fO gIx (fV 0) (fC (.int 0))) (fCons (fO gIx (fV 1) (fC (.int 0))) fNil))) (fCons (fCP m_plus (fCons (fO gIx (fV 0) (fC (.int 1))) (fCons (fO gIx (fV 1) (fC (.int 1))) fNil))) (fCons (fCP m_plus (fCons (fO gIx (fV 0) (fC (.int 2))) (fCons (fO gIx (fV 1) (fC (.int 2))) fNil))) fNil)))))
noncomputable def m_together : List D → Option D := mkP 2 2 b_together
theorem lo_together (ds : List D) (d : D) : m_together ds = some d → D.los 0 ds = true ∧ ds.length = 2 := mkP_lo
theorem e_together (d0 d1 : D) (h : D.los 0 [d0, d1] = true) : m_together [d0, d1] = ob (b_together [some d0, some d1] []) finP := mkP_e h rfl rfl
noncomputable def b_way_between : FS :=
  (sRet (fTup (fCons (fCP m_minus (fCons (fO gIx (fV 1) (fC (.int 0))) (fCons (fO gIx (fV 0) (fC (.int 0))) fNil))) (fCons (fCP m_minus (fCons (fO gIx (fV 1) (fC (.int 1))) (fCons (fO gIx (fV 0) (fC (.int 1))) fNil))) (fCons (fCP m_minus (fCons (fO gIx (fV 1) (fC (.int 2))) (fCons (fO gIx (fV 0) (fC (.int 2))) fNil))) fNil)))))
noncomputable def m_way_between : List D → Option D := mkP 2 2 b_way_between
theorem lo_way_between (ds : List D) (d : D) : m_way_between ds = some d → D.los 0 ds = true ∧ ds.length = 2 := mkP_lo
theorem e_way_between (d0 d1 : D) (h : D.los 0 [d0, d1] = true) : m_way_between [d0, d1] = ob (b_way_between [some d0, some d1] []) finP := mkP_e h rfl rfl
noncomputable def b_turned : FS :=
  (sRet (fTup (fCons (fCP m_dot (fCons (fO gIx (fV 0) (fC (.int 0))) (fCons (fV 1) fNil))) (fCons (fCP m_dot (fCons (fO gIx (fV 0) (fC (.int 1))) (fCons (fV 1) fNil))) (fCons (fCP m_dot (fCons (fO gIx (fV 0) (fC (.int 2))) (fCons (fV 1) fNil))) fNil)))))
noncomputable def m_turned : List D → Option D := mkP 2 2 b_turned
theorem lo_turned (ds : List D) (d : D) : m_turned ds = some d → D.los 0 ds = true ∧ ds.length = 2 := mkP_lo
theorem e_turned (d0 d1 : D) (h : D.los 0 [d0, d1] = true) : m_turned [d0, d1] = ob (b_turned [some d0, some d1] []) finP := mkP_e h rfl rfl
noncomputable def b_columns_of : FS :=
  (sRet (fTup (fCons (fTup (fCons (fO gIx (fO gIx (fV 0) (fC (.int 0))) (fC (.int 0))) (fCons (fO gIx (fO gIx (fV 0) (fC (.int 1))) (fC (.int 0))) (fCons (fO gIx (fO gIx (fV 0) (fC (.int 2))) (fC (.int 0))) fNil)))) (fCons (fTup (fCons (fO gIx (fO gIx (fV 0) (fC (.int 0))) (fC (.int 1))) (fCons (fO gIx (fO gIx (fV 0) (fC (.int 1))) (fC (.int 1))) (fCons (fO gIx (fO gIx (fV 0) (fC (.int 2))) (fC (.int 1))) fNil)))) (fCons (fTup (fCons (fO gIx (fO gIx (fV 0) (fC (.int 0))) (fC (.int 2))) (fCons (fO gIx (fO gIx (fV 0) (fC (.int 1))) (fC (.int 2))) (fCons (fO gIx (fO gIx (fV 0) (fC (.int 2))) (fC (.int 2))) fNil)))) fNil)))))
noncomputable def m_columns_of : List D → Option D := mkP 1 1 b_columns_of
theorem lo_columns_of (ds : List D) (d : D) : m_columns_of ds = some d → D.los 0 ds = true ∧ ds.length = 1 := mkP_lo
theorem e_columns_of (d0 : D) (h : D.los 0 [d0] = true) : m_columns_of [d0] = ob (b_columns_of [some d0] []) finP := mkP_e h rfl rfl
noncomputable def b_Whole_nought : FS :=
  (sRet (fC (.int 0)))
noncomputable def m_Whole_nought : GL := mkM 1 1 b_Whole_nought
theorem ln_Whole_nought (ds : List D) (M : Mem) (d : D × Mem) : m_Whole_nought ds M = some d → ds.length = 1 := mkM_len
theorem e_Whole_nought (d0 : D) (M : Mem) : m_Whole_nought [d0] M = ob (b_Whole_nought [some d0] M) finM := mkM_e rfl rfl
noncomputable def b_Whole_plus : FS :=
  (sRet (fO gAdd (fV 1) (fV 2)))
noncomputable def m_Whole_plus : GL := mkM 3 3 b_Whole_plus
theorem ln_Whole_plus (ds : List D) (M : Mem) (d : D × Mem) : m_Whole_plus ds M = some d → ds.length = 3 := mkM_len
theorem e_Whole_plus (d0 d1 d2 : D) (M : Mem) : m_Whole_plus [d0, d1, d2] M = ob (b_Whole_plus [some d0, some d1, some d2] M) finM := mkM_e rfl rfl
noncomputable def b_Whole_times : FS :=
  (sRet (fO gMul (fV 1) (fV 2)))
noncomputable def m_Whole_times : GL := mkM 3 3 b_Whole_times
theorem ln_Whole_times (ds : List D) (M : Mem) (d : D × Mem) : m_Whole_times ds M = some d → ds.length = 3 := mkM_len
theorem e_Whole_times (d0 d1 d2 : D) (M : Mem) : m_Whole_times [d0, d1, d2] M = ob (b_Whole_times [some d0, some d1, some d2] M) finM := mkM_e rfl rfl
noncomputable def b_Whole_scaled : FS :=
  (sRet (fO gMul (fV 1) (fV 2)))
noncomputable def m_Whole_scaled : GL := mkM 3 3 b_Whole_scaled
theorem ln_Whole_scaled (ds : List D) (M : Mem) (d : D × Mem) : m_Whole_scaled ds M = some d → ds.length = 3 := mkM_len
theorem e_Whole_scaled (d0 d1 d2 : D) (M : Mem) : m_Whole_scaled [d0, d1, d2] M = ob (b_Whole_scaled [some d0, some d1, some d2] M) finM := mkM_e rfl rfl
noncomputable def b_Whole_sign : FS :=
  (sSeq (sIf (tV (fO gLt (fV 1) (fC (.int 0)))) (sRet (fU gNeg (fC (.int 1)))) sNext)
    (sSeq (sIf (tV (fO gGt (fV 1) (fC (.int 0)))) (sRet (fC (.int 1))) sNext)
    (sRet (fC (.int 0)))))
noncomputable def m_Whole_sign : GL := mkM 2 2 b_Whole_sign
theorem ln_Whole_sign (ds : List D) (M : Mem) (d : D × Mem) : m_Whole_sign ds M = some d → ds.length = 2 := mkM_len
theorem e_Whole_sign (d0 d1 : D) (M : Mem) : m_Whole_sign [d0, d1] M = ob (b_Whole_sign [some d0, some d1] M) finM := mkM_e rfl rfl
noncomputable def b_Rooted___init__ : FS :=
  (sSeq (sFldD at_below "below" (fV 1) (fV 0))
    (sFldD at_under "under" (fV 2) (fV 0)))
noncomputable def m_Rooted___init__ : GL := mkM 3 3 b_Rooted___init__
theorem ln_Rooted___init__ (ds : List D) (M : Mem) (d : D × Mem) : m_Rooted___init__ ds M = some d → ds.length = 3 := mkM_len
theorem e_Rooted___init__ (d0 d1 d2 : D) (M : Mem) : m_Rooted___init__ [d0, d1, d2] M = ob (b_Rooted___init__ [some d0, some d1, some d2] M) finM := mkM_e rfl rfl
noncomputable def tbr_nought (self : GL) : Nat → Option GL
  | 0 => some m_Whole_nought
  | 1 => some self
  | _ => none
theorem tblr_nought {self : GL} (hs : ∀ (ds : List D) (M : Mem) (d : D × Mem), self ds M = some d → ds.length = 1) : ∀ (c : Nat) (g : GL), tbr_nought self c = some g → ∀ (ds : List D) (M : Mem) (d : D × Mem), g ds M = some d → ds.length = 1
  | 0, _, e => by cases e; exact ln_Whole_nought
  | 1, _, e => by cases e; exact hs
  | _ + 2, _, e => by cases e
noncomputable def b_Rooted_nought (self : GL) : FS :=
  (sRet (fTup (fCons (fMt (tbr_nought self) "nought" (fU (gFld at_below "below") (fV 0)) fNil) (fCons (fMt (tbr_nought self) "nought" (fU (gFld at_below "below") (fV 0)) fNil) fNil))))
noncomputable def m_Rooted_nought : Nat → GL
  | 0 => fun _ _ => none
  | n + 1 => mkM 1 1 (b_Rooted_nought (m_Rooted_nought n))
theorem ln_Rooted_nought : ∀ (n : Nat) (ds : List D) (M : Mem) (d : D × Mem), m_Rooted_nought n ds M = some d → ds.length = 1
  | 0, _, _, _, e => by cases e
  | _ + 1, _, _, _, e => mkM_len e
theorem e_Rooted_nought (n : Nat) (d0 : D) (M : Mem) : m_Rooted_nought (n + 1) [d0] M = ob (b_Rooted_nought (m_Rooted_nought n) [some d0] M) finM := mkM_e rfl rfl
noncomputable def tb_nought : Nat → Option GL
  | 0 => some m_Whole_nought
  | 1 => some (m_Rooted_nought 4)
  | _ => none
theorem tbl_nought : ∀ (c : Nat) (g : GL), tb_nought c = some g → ∀ (ds : List D) (M : Mem) (d : D × Mem), g ds M = some d → ds.length = 1
  | 0, _, e => by cases e; exact ln_Whole_nought
  | 1, _, e => by cases e; exact ln_Rooted_nought 4
  | _ + 2, _, e => by cases e
noncomputable def b_Rooted_lifted : FS :=
  (sRet (fTup (fCons (fV 1) (fCons (fMt tb_nought "nought" (fU (gFld at_below "below") (fV 0)) fNil) fNil))))
noncomputable def m_Rooted_lifted : GL := mkM 2 2 b_Rooted_lifted
theorem ln_Rooted_lifted (ds : List D) (M : Mem) (d : D × Mem) : m_Rooted_lifted ds M = some d → ds.length = 2 := mkM_len
theorem e_Rooted_lifted (d0 d1 : D) (M : Mem) : m_Rooted_lifted [d0, d1] M = ob (b_Rooted_lifted [some d0, some d1] M) finM := mkM_e rfl rfl
noncomputable def tbr_plus (self : GL) : Nat → Option GL
  | 0 => some m_Whole_plus
  | 1 => some self
  | _ => none
theorem tblr_plus {self : GL} (hs : ∀ (ds : List D) (M : Mem) (d : D × Mem), self ds M = some d → ds.length = 3) : ∀ (c : Nat) (g : GL), tbr_plus self c = some g → ∀ (ds : List D) (M : Mem) (d : D × Mem), g ds M = some d → ds.length = 3
  | 0, _, e => by cases e; exact ln_Whole_plus
  | 1, _, e => by cases e; exact hs
  | _ + 2, _, e => by cases e
noncomputable def b_Rooted_plus (self : GL) : FS :=
  (sRet (fTup (fCons (fMt (tbr_plus self) "plus" (fU (gFld at_below "below") (fV 0)) (fCons (fO gIx (fV 1) (fC (.int 0))) (fCons (fO gIx (fV 2) (fC (.int 0))) fNil))) (fCons (fMt (tbr_plus self) "plus" (fU (gFld at_below "below") (fV 0)) (fCons (fO gIx (fV 1) (fC (.int 1))) (fCons (fO gIx (fV 2) (fC (.int 1))) fNil))) fNil))))
noncomputable def m_Rooted_plus : Nat → GL
  | 0 => fun _ _ => none
  | n + 1 => mkM 3 3 (b_Rooted_plus (m_Rooted_plus n))
theorem ln_Rooted_plus : ∀ (n : Nat) (ds : List D) (M : Mem) (d : D × Mem), m_Rooted_plus n ds M = some d → ds.length = 3
  | 0, _, _, _, e => by cases e
  | _ + 1, _, _, _, e => mkM_len e
theorem e_Rooted_plus (n : Nat) (d0 d1 d2 : D) (M : Mem) : m_Rooted_plus (n + 1) [d0, d1, d2] M = ob (b_Rooted_plus (m_Rooted_plus n) [some d0, some d1, some d2] M) finM := mkM_e rfl rfl
noncomputable def tbr_times (self : GL) : Nat → Option GL
  | 0 => some m_Whole_times
  | 1 => some self
  | _ => none
theorem tblr_times {self : GL} (hs : ∀ (ds : List D) (M : Mem) (d : D × Mem), self ds M = some d → ds.length = 3) : ∀ (c : Nat) (g : GL), tbr_times self c = some g → ∀ (ds : List D) (M : Mem) (d : D × Mem), g ds M = some d → ds.length = 3
  | 0, _, e => by cases e; exact ln_Whole_times
  | 1, _, e => by cases e; exact hs
  | _ + 2, _, e => by cases e
noncomputable def tb_plus : Nat → Option GL
  | 0 => some m_Whole_plus
  | 1 => some (m_Rooted_plus 4)
  | _ => none
theorem tbl_plus : ∀ (c : Nat) (g : GL), tb_plus c = some g → ∀ (ds : List D) (M : Mem) (d : D × Mem), g ds M = some d → ds.length = 3
  | 0, _, e => by cases e; exact ln_Whole_plus
  | 1, _, e => by cases e; exact ln_Rooted_plus 4
  | _ + 2, _, e => by cases e
noncomputable def b_Rooted_times (self : GL) : FS :=
  (sSeq (sAsg (fU (gFld at_below "below") (fV 0)) (gN 3))
    (sSeq (sAsg (fMt (tbr_times self) "times" (fV 3) (fCons (fU (gFld at_under "under") (fV 0)) (fCons (fMt (tbr_times self) "times" (fV 3) (fCons (fO gIx (fV 1) (fC (.int 1))) (fCons (fO gIx (fV 2) (fC (.int 1))) fNil))) fNil))) (gN 4))
    (sSeq (sAsg (fMt tb_plus "plus" (fV 3) (fCons (fMt (tbr_times self) "times" (fV 3) (fCons (fO gIx (fV 1) (fC (.int 0))) (fCons (fO gIx (fV 2) (fC (.int 0))) fNil))) (fCons (fV 4) fNil))) (gN 5))
    (sSeq (sAsg (fMt tb_plus "plus" (fV 3) (fCons (fMt (tbr_times self) "times" (fV 3) (fCons (fO gIx (fV 1) (fC (.int 0))) (fCons (fO gIx (fV 2) (fC (.int 1))) fNil))) (fCons (fMt (tbr_times self) "times" (fV 3) (fCons (fO gIx (fV 1) (fC (.int 1))) (fCons (fO gIx (fV 2) (fC (.int 0))) fNil))) fNil))) (gN 6))
    (sRet (fTup (fCons (fV 5) (fCons (fV 6) fNil))))))))
noncomputable def m_Rooted_times : Nat → GL
  | 0 => fun _ _ => none
  | n + 1 => mkM 3 7 (b_Rooted_times (m_Rooted_times n))
theorem ln_Rooted_times : ∀ (n : Nat) (ds : List D) (M : Mem) (d : D × Mem), m_Rooted_times n ds M = some d → ds.length = 3
  | 0, _, _, _, e => by cases e
  | _ + 1, _, _, _, e => mkM_len e
theorem e_Rooted_times (n : Nat) (d0 d1 d2 : D) (M : Mem) : m_Rooted_times (n + 1) [d0, d1, d2] M = ob (b_Rooted_times (m_Rooted_times n) [some d0, some d1, some d2, none, none, none, none] M) finM := mkM_e rfl rfl
noncomputable def tbr_scaled (self : GL) : Nat → Option GL
  | 0 => some m_Whole_scaled
  | 1 => some self
  | _ => none
theorem tblr_scaled {self : GL} (hs : ∀ (ds : List D) (M : Mem) (d : D × Mem), self ds M = some d → ds.length = 3) : ∀ (c : Nat) (g : GL), tbr_scaled self c = some g → ∀ (ds : List D) (M : Mem) (d : D × Mem), g ds M = some d → ds.length = 3
  | 0, _, e => by cases e; exact ln_Whole_scaled
  | 1, _, e => by cases e; exact hs
  | _ + 2, _, e => by cases e
noncomputable def b_Rooted_scaled (self : GL) : FS :=
  (sRet (fTup (fCons (fMt (tbr_scaled self) "scaled" (fU (gFld at_below "below") (fV 0)) (fCons (fO gIx (fV 1) (fC (.int 0))) (fCons (fV 2) fNil))) (fCons (fMt (tbr_scaled self) "scaled" (fU (gFld at_below "below") (fV 0)) (fCons (fO gIx (fV 1) (fC (.int 1))) (fCons (fV 2) fNil))) fNil))))
noncomputable def m_Rooted_scaled : Nat → GL
  | 0 => fun _ _ => none
  | n + 1 => mkM 3 3 (b_Rooted_scaled (m_Rooted_scaled n))
theorem ln_Rooted_scaled : ∀ (n : Nat) (ds : List D) (M : Mem) (d : D × Mem), m_Rooted_scaled n ds M = some d → ds.length = 3
  | 0, _, _, _, e => by cases e
  | _ + 1, _, _, _, e => mkM_len e
theorem e_Rooted_scaled (n : Nat) (d0 d1 d2 : D) (M : Mem) : m_Rooted_scaled (n + 1) [d0, d1, d2] M = ob (b_Rooted_scaled (m_Rooted_scaled n) [some d0, some d1, some d2] M) finM := mkM_e rfl rfl
noncomputable def tbr_sign (self : GL) : Nat → Option GL
  | 0 => some m_Whole_sign
  | 1 => some self
  | _ => none
theorem tblr_sign {self : GL} (hs : ∀ (ds : List D) (M : Mem) (d : D × Mem), self ds M = some d → ds.length = 2) : ∀ (c : Nat) (g : GL), tbr_sign self c = some g → ∀ (ds : List D) (M : Mem) (d : D × Mem), g ds M = some d → ds.length = 2
  | 0, _, e => by cases e; exact ln_Whole_sign
  | 1, _, e => by cases e; exact hs
  | _ + 2, _, e => by cases e
noncomputable def tb_times : Nat → Option GL
  | 0 => some m_Whole_times
  | 1 => some (m_Rooted_times 4)
  | _ => none
theorem tbl_times : ∀ (c : Nat) (g : GL), tb_times c = some g → ∀ (ds : List D) (M : Mem) (d : D × Mem), g ds M = some d → ds.length = 3
  | 0, _, e => by cases e; exact ln_Whole_times
  | 1, _, e => by cases e; exact ln_Rooted_times 4
  | _ + 2, _, e => by cases e
noncomputable def tb_scaled : Nat → Option GL
  | 0 => some m_Whole_scaled
  | 1 => some (m_Rooted_scaled 4)
  | _ => none
theorem tbl_scaled : ∀ (c : Nat) (g : GL), tb_scaled c = some g → ∀ (ds : List D) (M : Mem) (d : D × Mem), g ds M = some d → ds.length = 3
  | 0, _, e => by cases e; exact ln_Whole_scaled
  | 1, _, e => by cases e; exact ln_Rooted_scaled 4
  | _ + 2, _, e => by cases e
noncomputable def b_Rooted_sign (self : GL) : FS :=
  (sSeq (sAsg (fU (gFld at_below "below") (fV 0)) (gN 2))
    (sSeq (sAsg (fV 1) (gT 2 (gsCons (gN 3) (gsCons (gN 4) gsNil))))
    (sSeq (sAsg (fMt (tbr_sign self) "sign" (fV 2) (fCons (fV 3) fNil)) (gN 5))
    (sSeq (sAsg (fO gMul (fMt (tbr_sign self) "sign" (fV 2) (fCons (fV 4) fNil)) (fMt (tbr_sign self) "sign" (fV 2) (fCons (fU (gFld at_under "under") (fV 0)) fNil))) (gN 6))
    (sSeq (sIf (tOr2 (tV (fO gEq (fV 6) (fC (.int 0)))) (tV (fO gEq (fV 5) (fV 6)))) (sRet (fV 5)) sNext)
    (sSeq (sIf (tV (fO gEq (fV 5) (fC (.int 0)))) (sRet (fV 6)) sNext)
    (sSeq (sAsg (fMt tb_times "times" (fV 2) (fCons (fU (gFld at_under "under") (fV 0)) (fCons (fMt tb_times "times" (fV 2) (fCons (fV 4) (fCons (fV 4) fNil))) fNil))) (gN 7))
    (sSeq (sAsg (fMt tb_plus "plus" (fV 2) (fCons (fMt tb_times "times" (fV 2) (fCons (fV 3) (fCons (fV 3) fNil))) (fCons (fMt tb_scaled "scaled" (fV 2) (fCons (fV 7) (fCons (fU gNeg (fC (.int 1))) fNil))) fNil))) (gN 8))
    (sRet (fO gMul (fV 5) (fMt (tbr_sign self) "sign" (fV 2) (fCons (fV 8) fNil))))))))))))
noncomputable def m_Rooted_sign : Nat → GL
  | 0 => fun _ _ => none
  | n + 1 => mkM 2 9 (b_Rooted_sign (m_Rooted_sign n))
theorem ln_Rooted_sign : ∀ (n : Nat) (ds : List D) (M : Mem) (d : D × Mem), m_Rooted_sign n ds M = some d → ds.length = 2
  | 0, _, _, _, e => by cases e
  | _ + 1, _, _, _, e => mkM_len e
theorem e_Rooted_sign (n : Nat) (d0 d1 : D) (M : Mem) : m_Rooted_sign (n + 1) [d0, d1] M = ob (b_Rooted_sign (m_Rooted_sign n) [some d0, some d1, none, none, none, none, none, none, none] M) finM := mkM_e rfl rfl
noncomputable def tb_sign : Nat → Option GL
  | 0 => some m_Whole_sign
  | 1 => some (m_Rooted_sign 4)
  | _ => none
theorem tbl_sign : ∀ (c : Nat) (g : GL), tb_sign c = some g → ∀ (ds : List D) (M : Mem) (d : D × Mem), g ds M = some d → ds.length = 2
  | 0, _, e => by cases e; exact ln_Whole_sign
  | 1, _, e => by cases e; exact ln_Rooted_sign 4
  | _ + 2, _, e => by cases e
noncomputable def tb_lifted : Nat → Option GL
  | 1 => some m_Rooted_lifted
  | _ => none
theorem tbl_lifted : ∀ (c : Nat) (g : GL), tb_lifted c = some g → ∀ (ds : List D) (M : Mem) (d : D × Mem), g ds M = some d → ds.length = 2
  | 0, _, e => by cases e
  | 1, _, e => by cases e; exact ln_Rooted_lifted
  | _ + 2, _, e => by cases e
noncomputable def b_compare : FS :=
  (sSeq (sAsg (fV 0) (gT 3 (gsCons (gN 2) (gsCons (gN 3) (gsCons (gN 4) gsNil)))))
    (sSeq (sAsg (fV 1) (gT 3 (gsCons (gN 5) (gsCons (gN 6) (gsCons (gN 7) gsNil)))))
    (sSeq (sAsg (fO gSub (fO gMul (fO gIx (fV 2) (fC (.int 0))) (fO gIx (fV 5) (fC (.int 1)))) (fO gMul (fO gIx (fV 5) (fC (.int 0))) (fO gIx (fV 2) (fC (.int 1))))) (gN 8))
    (sSeq (sIf (tAn (tV (fO gEq (fO gMul (fO gIx (fV 3) (fC (.int 0))) (fO gIx (fV 4) (fC (.int 0)))) (fC (.int 0)))) (tV (fO gEq (fO gMul (fO gIx (fV 6) (fC (.int 0))) (fO gIx (fV 7) (fC (.int 0)))) (fC (.int 0))))) (sRet (fMt tb_sign "sign" (fMk0 0) (fCons (fV 8) fNil))) sNext)
    (sSeq (sAsg (fO gMul (fO gIx (fV 2) (fC (.int 1))) (fO gIx (fV 5) (fC (.int 1)))) (gN 9))
    (sSeq (sAsg (fO gMul (fO gIx (fV 3) (fC (.int 1))) (fO gIx (fV 4) (fC (.int 1)))) (gN 10))
    (sSeq (sAsg (fO gMul (fO gIx (fV 6) (fC (.int 1))) (fO gIx (fV 7) (fC (.int 1)))) (gN 11))
    (sSeq (sAsg (fMk 1 m_Rooted___init__ (fCons (fMk0 0) (fCons (fO gMul (fO gIx (fV 4) (fC (.int 0))) (fO gIx (fV 4) (fC (.int 1)))) fNil))) (gN 12))
    (sSeq (sAsg (fMk 1 m_Rooted___init__ (fCons (fV 12) (fCons (fMt tb_lifted "lifted" (fV 12) (fCons (fO gMul (fO gIx (fV 7) (fC (.int 0))) (fO gIx (fV 7) (fC (.int 1)))) fNil)) fNil))) (gN 13))
    (sSeq (sAsg (fTup (fCons (fO gMul (fO gMul (fV 8) (fV 10)) (fV 11)) (fCons (fO gMul (fO gMul (fO gIx (fV 3) (fC (.int 0))) (fV 9)) (fV 11)) fNil))) (gN 14))
    (sRet (fMt tb_sign "sign" (fV 13) (fCons (fTup (fCons (fV 14) (fCons (fMt tb_lifted "lifted" (fV 12) (fCons (fO gMul (fO gMul (fU gNeg (fO gIx (fV 6) (fC (.int 0)))) (fV 9)) (fV 10)) fNil)) fNil))) fNil)))))))))))))
noncomputable def m_compare : List D → Option D := mkP 2 15 b_compare
theorem lo_compare (ds : List D) (d : D) : m_compare ds = some d → D.los 0 ds = true ∧ ds.length = 2 := mkP_lo
theorem e_compare (d0 d1 : D) (h : D.los 0 [d0, d1] = true) : m_compare [d0, d1] = ob (b_compare [some d0, some d1, none, none, none, none, none, none, none, none, none, none, none, none, none] []) finP := mkP_e h rfl rfl
noncomputable def b_slabs_of : FS :=
  (sSeq (sPar3 1 2 3 (fCons (fO gIx (fV 0) (fC (.int 1))) (fCons (fO gIx (fV 0) (fC (.int 2))) (fCons (fO gIx (fV 0) (fC (.int 3))) fNil))))
    (sSeq (sIf (tV (fO gEq (fO gIx (fV 1) (fC (.int 0))) (fC (.str "half")))) (sSeq (sAsg (fCP m_turned (fCons (fV 2) (fCons (fO gIx (fV 1) (fC (.int 1))) fNil))) (gN 4))
    (sRet (fLst (fCons (fTup (fCons (fV 4) (fCons (fC .non) (fCons (fCP m_plus (fCons (fO gIx (fV 1) (fC (.int 2))) (fCons (fCP m_dot (fCons (fV 4) (fCons (fV 3) fNil))) fNil))) (fCons (fC .non) (fCons (fC (.int 0)) fNil)))))) fNil)))) sNext)
    (sSeq (sAsg (fLst fNil) (gN 5))
    (sSeq (sFor (iEn (fCP m_columns_of (fCons (fV 2) fNil))) (gT 2 (gsCons (gN 6) (gsCons (gN 4) gsNil))) (sSeq (sAsg (fCP m_dot (fCons (fV 4) (fCons (fV 3) fNil))) (gN 7))
    (sDrop (fML mApp (fV 5) (fCons (fTup (fCons (fV 4) (fCons (fCP m_plus (fCons (fO gIx (fO gIx (fV 1) (fC (.int 1))) (fV 6)) (fCons (fV 7) fNil))) (fCons (fCP m_plus (fCons (fO gIx (fO gIx (fV 1) (fC (.int 2))) (fV 6)) (fCons (fV 7) fNil))) (fCons (fO gMul (fC (.int 2)) (fV 6)) (fCons (fO gAdd (fO gMul (fC (.int 2)) (fV 6)) (fC (.int 1))) fNil)))))) fNil)))))
    (sRet (fV 5))))))
noncomputable def m_slabs_of : GL := mkM 1 8 b_slabs_of
theorem ln_slabs_of (ds : List D) (M : Mem) (d : D × Mem) : m_slabs_of ds M = some d → ds.length = 1 := mkM_len
theorem e_slabs_of (d0 : D) (M : Mem) : m_slabs_of [d0] M = ob (b_slabs_of [some d0, none, none, none, none, none, none, none] M) finM := mkM_e rfl rfl
noncomputable def b_ball_of : FS :=
  (sSeq (sPar3 1 2 3 (fCons (fO gIx (fV 0) (fC (.int 1))) (fCons (fO gIx (fV 0) (fC (.int 2))) (fCons (fO gIx (fV 0) (fC (.int 3))) fNil))))
    (sRet (fTup (fCons (fCP m_together (fCons (fCP m_turned (fCons (fV 2) (fCons (fO gIx (fV 1) (fC (.int 1))) fNil))) (fCons (fV 3) fNil))) (fCons (fO gIx (fV 1) (fC (.int 2))) fNil)))))
noncomputable def m_ball_of : List D → Option D := mkP 1 4 b_ball_of
theorem lo_ball_of (ds : List D) (d : D) : m_ball_of ds = some d → D.los 0 ds = true ∧ ds.length = 1 := mkP_lo
theorem e_ball_of (d0 : D) (h : D.los 0 [d0] = true) : m_ball_of [d0] = ob (b_ball_of [some d0, none, none, none] []) finP := mkP_e h rfl rfl
noncomputable def b_directed : FS :=
  (sSeq (sIf (tV (fO gGt (fV 0) (fC (.int 0)))) (sRet (fTup (fCons (fV 1) (fCons (fV 2) (fCons (fO gIx (fV 3) (fC (.int 3))) (fCons (fO gIx (fV 3) (fC (.int 4))) fNil)))))) sNext)
    (sRet (fTup (fCons (fV 2) (fCons (fV 1) (fCons (fO gIx (fV 3) (fC (.int 4))) (fCons (fO gIx (fV 3) (fC (.int 3))) fNil)))))))
noncomputable def m_directed : List D → Option D := mkP 4 4 b_directed
theorem lo_directed (ds : List D) (d : D) : m_directed ds = some d → D.los 0 ds = true ∧ ds.length = 4 := mkP_lo
theorem e_directed (d0 d1 d2 d3 : D) (h : D.los 0 [d0, d1, d2, d3] = true) : m_directed [d0, d1, d2, d3] = ob (b_directed [some d0, some d1, some d2, some d3] []) finP := mkP_e h rfl rfl
noncomputable def fv : Nat → Option (List D → Option D)
  | 2 => some m_compare
  | _ => none
theorem fvl : ∀ (n : Nat) (m : List D → Option D), fv n = some m → ∀ (ds : List D) (d : D), m ds = some d → D.los 0 ds = true ∧ ds.length = 2
  | 0, _, e => by cases e
  | 1, _, e => by cases e
  | 2, _, e => by cases e; exact lo_compare
  | _ + 3, _, e => by cases e
noncomputable def b_met : FS :=
  (sSeq (sAs4 (fC .non) (gN 2) (gN 3) (gN 4) (gN 5))
    (sSeq (sFor (iE (fV 0)) (gN 6) (sSeq (sIf (tV (fO gIsN (fV 6) (fC .non))) (sRet (fC .non)) sNext)
    (sSeq (sIf (tAn (tV (fO gNotN (fO gIx (fV 6) (fC (.int 0))) (fC .non))) (tOr2 (tV (fO gIsN (fV 2) (fC .non))) (tV (fO gGt (fCV fv 1 (fCons (fO gIx (fV 6) (fC (.int 0))) (fCons (fV 2) fNil))) (fC (.int 0)))))) (sPar 2 4 (fCons (fO gIx (fV 6) (fC (.int 0))) (fCons (fO gIx (fV 6) (fC (.int 2))) fNil))) sNext)
    (sIf (tAn (tV (fO gNotN (fO gIx (fV 6) (fC (.int 1))) (fC .non))) (tOr2 (tV (fO gIsN (fV 3) (fC .non))) (tV (fO gLt (fCV fv 1 (fCons (fO gIx (fV 6) (fC (.int 1))) (fCons (fV 3) fNil))) (fC (.int 0)))))) (sPar 3 5 (fCons (fO gIx (fV 6) (fC (.int 1))) (fCons (fO gIx (fV 6) (fC (.int 3))) fNil))) sNext))))
    (sSeq (sIf (tAn (tV (fO gNotN (fV 2) (fC .non))) (tAn (tV (fO gNotN (fV 3) (fC .non))) (tV (fO gGe (fCV fv 1 (fCons (fV 2) (fCons (fV 3) fNil))) (fC (.int 0)))))) (sRet (fC .non)) sNext)
    (sRet (fTup (fCons (fV 2) (fCons (fV 3) (fCons (fV 4) (fCons (fV 5) fNil)))))))))
noncomputable def m_met : GL := mkM 2 7 b_met
theorem ln_met (ds : List D) (M : Mem) (d : D × Mem) : m_met ds M = some d → ds.length = 2 := mkM_len
theorem e_met (d0 d1 : D) (M : Mem) : m_met [d0, d1] M = ob (b_met [some d0, some d1, none, none, none, none, none] M) finM := mkM_e rfl rfl
noncomputable def b_flat_moment : FS :=
  (sRet (fIf (tV (fO gIsN (fV 0) (fC .non))) (fC .non) (fTup (fCons (fCP m_over (fCons (fV 0) (fCons (fV 1) fNil))) (fCons (fC (.tup [(.int 0), (.int 1)])) (fCons (fC (.tup [(.int 0), (.int 1)])) fNil))))))
noncomputable def m_flat_moment : List D → Option D := mkP 2 2 b_flat_moment
theorem lo_flat_moment (ds : List D) (d : D) : m_flat_moment ds = some d → D.los 0 ds = true ∧ ds.length = 2 := mkP_lo
theorem e_flat_moment (d0 d1 : D) (h : D.los 0 [d0, d1] = true) : m_flat_moment [d0, d1] = ob (b_flat_moment [some d0, some d1] []) finP := mkP_e h rfl rfl
noncomputable def b_slab_stretch : FS :=
  (sSeq (sPar3 2 3 4 (fCons (fO gIx (fV 0) (fC (.int 0))) (fCons (fO gIx (fV 0) (fC (.int 1))) (fCons (fO gIx (fV 0) (fC (.int 2))) fNil))))
    (sSeq (sPar 5 6 (fCons (fCP m_dot (fCons (fV 2) (fCons (fO gIx (fV 1) (fC (.int 0))) fNil))) (fCons (fCP m_dot (fCons (fV 2) (fCons (fO gIx (fV 1) (fC (.int 1))) fNil))) fNil)))
    (sSeq (sAsg (fIf (tV (fO gIsN (fV 3) (fC .non))) (fC .non) (fCP m_minus (fCons (fV 3) (fCons (fV 5) fNil)))) (gN 7))
    (sSeq (sAsg (fCP m_minus (fCons (fV 4) (fCons (fV 5) fNil))) (gN 8))
    (sSeq (sAsg (fCP m_sign (fCons (fV 6) fNil)) (gN 9))
    (sSeq (sIf (tV (fO gEq (fV 9) (fC (.int 0)))) (sSeq (sAsg (fAnB (fO gGt (fCP m_sign (fCons (fV 8) fNil)) (fC (.int 0))) (fOrB (fO gIsN (fV 7) (fC .non)) (fO gLt (fCP m_sign (fCons (fV 7) fNil)) (fC (.int 0))))) (gN 10))
    (sRet (fIf (tTr (fV 10)) (fC (.tup [.non, .non, .non, .non])) (fC .non)))) sNext)
    (sRet (fCP m_directed (fCons (fV 9) (fCons (fCP m_flat_moment (fCons (fV 7) (fCons (fV 6) fNil))) (fCons (fCP m_flat_moment (fCons (fV 8) (fCons (fV 6) fNil))) (fCons (fV 0) fNil))))))))))))
noncomputable def m_slab_stretch : List D → Option D := mkP 2 11 b_slab_stretch
theorem lo_slab_stretch (ds : List D) (d : D) : m_slab_stretch ds = some d → D.los 0 ds = true ∧ ds.length = 2 := mkP_lo
theorem e_slab_stretch (d0 d1 : D) (h : D.los 0 [d0, d1] = true) : m_slab_stretch [d0, d1] = ob (b_slab_stretch [some d0, some d1, none, none, none, none, none, none, none, none, none] []) finP := mkP_e h rfl rfl
noncomputable def b_ball_stretch : FS :=
  (sSeq (sAsg (fCP m_ball_of (fCons (fV 0) fNil)) (gT 2 (gsCons (gN 2) (gsCons (gN 3) gsNil))))
    (sSeq (sAsg (fV 1) (gT 2 (gsCons (gN 4) (gsCons (gN 5) gsNil))))
    (sSeq (sAsg (fCP m_way_between (fCons (fV 2) (fCons (fV 4) fNil))) (gN 6))
    (sSeq (sAsg (fCP m_dot (fCons (fV 5) (fCons (fV 5) fNil))) (gN 7))
    (sSeq (sAsg (fCP m_dot (fCons (fV 5) (fCons (fV 6) fNil))) (gN 8))
    (sSeq (sAsg (fCP m_minus (fCons (fCP m_dot (fCons (fV 6) (fCons (fV 6) fNil))) (fCons (fCP m_times (fCons (fV 3) (fCons (fV 3) fNil))) fNil))) (gN 9))
    (sSeq (sAsg (fCP m_minus (fCons (fCP m_times (fCons (fV 8) (fCons (fV 8) fNil))) (fCons (fCP m_times (fCons (fV 7) (fCons (fV 9) fNil))) fNil))) (gN 10))
    (sSeq (sIf (tV (fO gLe (fCP m_sign (fCons (fV 10) fNil)) (fC (.int 0)))) (sRet (fC .non)) sNext)
    (sSeq (sAsg (fCP m_over (fCons (fCP m_minus (fCons (fC (.tup [(.int 0), (.int 1)])) (fCons (fV 8) fNil))) (fCons (fV 7) fNil))) (gN 11))
    (sRet (fTup (fCons (fTup (fCons (fV 11) (fCons (fCP m_over (fCons (fTup (fCons (fU gNeg (fC (.int 1))) (fCons (fC (.int 1)) fNil))) (fCons (fV 7) fNil))) (fCons (fV 10) fNil)))) (fCons (fTup (fCons (fV 11) (fCons (fCP m_over (fCons (fTup (fCons (fC (.int 1)) (fCons (fC (.int 1)) fNil))) (fCons (fV 7) fNil))) (fCons (fV 10) fNil)))) (fCons (fC (.int 0)) (fCons (fC (.int 0)) fNil)))))))))))))))
noncomputable def m_ball_stretch : List D → Option D := mkP 2 12 b_ball_stretch
theorem lo_ball_stretch (ds : List D) (d : D) : m_ball_stretch ds = some d → D.los 0 ds = true ∧ ds.length = 2 := mkP_lo
theorem e_ball_stretch (d0 d1 : D) (h : D.los 0 [d0, d1] = true) : m_ball_stretch [d0, d1] = ob (b_ball_stretch [some d0, some d1, none, none, none, none, none, none, none, none, none, none] []) finP := mkP_e h rfl rfl
noncomputable def b_leaf_stretch : FS :=
  (sSeq (sIf (tV (fO gEq (fO gIx (fO gIx (fV 0) (fC (.int 1))) (fC (.int 0))) (fC (.str "ball")))) (sRet (fCP m_ball_stretch (fCons (fV 0) (fCons (fV 1) fNil)))) sNext)
    (sRet (fL m_met (fCons (fLc (iE (fL m_slabs_of (fCons (fV 0) fNil))) (gN 2) tYesD (fCP m_slab_stretch (fCons (fV 2) (fCons (fV 1) fNil))) [2]) (fCons (fC (.fn 2)) fNil)))))
noncomputable def m_leaf_stretch : List D → Option D := mkP 2 3 b_leaf_stretch
theorem lo_leaf_stretch (ds : List D) (d : D) : m_leaf_stretch ds = some d → D.los 0 ds = true ∧ ds.length = 2 := mkP_lo
theorem e_leaf_stretch (d0 d1 : D) (h : D.los 0 [d0, d1] = true) : m_leaf_stretch [d0, d1] = ob (b_leaf_stretch [some d0, some d1, none] []) finP := mkP_e h rfl rfl
noncomputable def b__law_open : FS :=
  (sRet (fLst (fCons (fO gAdd (fL bList (fCons (fSli (fV 0) none (some (fC (.int 63)))) fNil)) (fLst (fCons (fC (.int 11)) fNil))) (fCons (fC (.int 0)) (fCons (fC (.int 0)) (fCons (fC (.int 5)) fNil))))))
noncomputable def m__law_open : GL := mkM 1 1 b__law_open
theorem ln__law_open (ds : List D) (M : Mem) (d : D × Mem) : m__law_open ds M = some d → ds.length = 1 := mkM_len
theorem e__law_open (d0 : D) (M : Mem) : m__law_open [d0] M = ob (b__law_open [some d0] M) finM := mkM_e rfl rfl
noncomputable def b__law_pick : FS :=
  (sSeq (sIf (tV (fO gGt (fO gIx (fV 0) (fC (.int 2))) (fC (.int 0)))) (sSeq (sAsg (fO gMod (fO gIx (fV 0) (fC (.int 2))) (fV 1)) (gN 2))
    (sSeq (sSub (fO gFd (fO gIx (fV 0) (fC (.int 2))) (fV 1)) (fV 0) (fC (.int 2)))
    (sRet (fV 2)))) sNext)
    (sSeq (sAsg (fO gIx (fO gIx (fV 0) (fC (.int 0))) (fO gMod (fO gIx (fV 0) (fC (.int 1))) (fL bLen (fCons (fO gIx (fV 0) (fC (.int 0))) fNil)))) (gN 3))
    (sSeq (sSub (fO gAdd (fO gIx (fV 0) (fC (.int 1))) (fC (.int 1))) (fV 0) (fC (.int 1)))
    (sSeq (sIf (tAn (tV (fO gGe (fV 3) (fO gPow (fC (.int 10)) (fC (.int 18))))) (tV (fO gLe (fO gIx (fV 0) (fC (.int 1))) (fL bLen (fCons (fO gIx (fV 0) (fC (.int 0))) fNil))))) (sSeq (sSub (fO gFd (fV 3) (fV 1)) (fV 0) (fC (.int 2)))
    (sRet (fO gMod (fV 3) (fV 1)))) sNext)
    (sSeq (sSub (fO gMod (fO gAdd (fO gAdd (fO gMul (fO gIx (fV 0) (fC (.int 3))) (fC (.int 30013))) (fO gMod (fV 3) (fC (.int 2147483587)))) (fO gMul (fO gMul (fC (.int 13)) (fO gIx (fV 0) (fC (.int 1)))) (fO gIx (fV 0) (fC (.int 1))))) (fC (.int 2147483587))) (fV 0) (fC (.int 3)))
    (sRet (fO gMod (fO gFd (fO gMod (fO gMul (fO gIx (fV 0) (fC (.int 3))) (fC (.int 40009))) (fC (.int 2147483579))) (fC (.int 32))) (fV 1))))))))
noncomputable def m__law_pick : GL := mkM 2 4 b__law_pick
theorem ln__law_pick (ds : List D) (M : Mem) (d : D × Mem) : m__law_pick ds M = some d → ds.length = 2 := mkM_len
theorem e__law_pick (d0 d1 : D) (M : Mem) : m__law_pick [d0, d1] M = ob (b__law_pick [some d0, some d1, none, none] M) finM := mkM_e rfl rfl
noncomputable def b__law_same (self : List D → Option D) : FS :=
  (sSeq (sIf (tTr (fU (gT2 "list" "tuple") (fV 1))) (sSeq (sIf (tOr2 (tNo (tTr (fU (gT2 "list" "tuple") (fV 0)))) (tV (fO gNe (fL bIsi (fCons (fV 0) (fCons (fC (.ty "list")) fNil))) (fL bIsi (fCons (fV 1) (fCons (fC (.ty "list")) fNil)))))) (sRet (fC (.bl false))) sNext)
    (sSeq (sIf (tV (fO gNe (fL bLen (fCons (fV 0) fNil)) (fL bLen (fCons (fV 1) fNil)))) (sRet (fC (.bl false))) sNext)
    (sRet (fL bAll (fCons (fLc (iZ (fV 0) (fV 1)) (gT 2 (gsCons (gN 2) (gsCons (gN 3) gsNil))) tYesD (fCP self (fCons (fV 2) (fCons (fV 3) fNil))) [2, 3]) fNil))))) sNext)
    (sSeq (sIf (tV (fO gIsN (fV 1) (fC .non))) (sRet (fO gIsN (fV 0) (fC .non))) sNext)
    (sSeq (sIf (tTr (fL bIsi (fCons (fV 1) (fCons (fC (.ty "str")) fNil)))) (sRet (fAnB (fL bIsi (fCons (fV 0) (fCons (fC (.ty "str")) fNil))) (fO gEq (fV 0) (fV 1)))) sNext)
    (sRet (fAnB (fL bIsi (fCons (fV 0) (fCons (fC (.ty "int")) fNil))) (fAnB (fO gEq (fL bIsi (fCons (fV 0) (fCons (fC (.ty "bool")) fNil))) (fL bIsi (fCons (fV 1) (fCons (fC (.ty "bool")) fNil)))) (fO gEq (fV 0) (fV 1))))))))
noncomputable def m__law_same : Nat → List D → Option D
  | 0 => fun _ => none
  | n + 1 => mkP 2 4 (b__law_same (m__law_same n))
theorem lo__law_same : ∀ (n : Nat) (ds : List D) (d : D), m__law_same n ds = some d → D.los 0 ds = true ∧ ds.length = 2
  | 0, _, _, e => by cases e
  | _ + 1, _, _, e => mkP_lo e
theorem e__law_same (n : Nat) (d0 d1 : D) (h : D.los 0 [d0, d1] = true) : m__law_same (n + 1) [d0, d1] = ob (b__law_same (m__law_same n) [some d0, some d1, none, none] []) finP := mkP_e h rfl rfl
noncomputable def b__law_fr : FS :=
  (sSeq (sPar 2 3 (fCons (fL bAbs (fCons (fV 0) fNil)) (fCons (fL bAbs (fCons (fV 1) fNil)) fNil)))
    (sSeq (sWhile (tV (fO gNe (fV 3) (fC (.int 0)))) (sPar 2 3 (fCons (fV 3) (fCons (fO gMod (fV 2) (fV 3)) fNil))))
    (sSeq (sIf (tV (fO gLt (fV 1) (fC (.int 0)))) (sAsg (fO gSub (fC (.int 0)) (fV 2)) (gN 2)) sNext)
    (sRet (fTup (fCons (fO gFd (fV 0) (fV 2)) (fCons (fO gFd (fV 1) (fV 2)) fNil)))))))
noncomputable def m__law_fr : List D → Option D := mkP 2 4 b__law_fr
theorem lo__law_fr (ds : List D) (d : D) : m__law_fr ds = some d → D.los 0 ds = true ∧ ds.length = 2 := mkP_lo
theorem e__law_fr (d0 d1 : D) (h : D.los 0 [d0, d1] = true) : m__law_fr [d0, d1] = ob (b__law_fr [some d0, some d1, none, none] []) finP := mkP_e h rfl rfl
noncomputable def b__law_add : FS :=
  (sRet (fCP m__law_fr (fCons (fO gAdd (fO gMul (fO gIx (fV 0) (fC (.int 0))) (fO gIx (fV 1) (fC (.int 1)))) (fO gMul (fO gIx (fV 1) (fC (.int 0))) (fO gIx (fV 0) (fC (.int 1))))) (fCons (fO gMul (fO gIx (fV 0) (fC (.int 1))) (fO gIx (fV 1) (fC (.int 1)))) fNil))))
noncomputable def m__law_add : List D → Option D := mkP 2 2 b__law_add
theorem lo__law_add (ds : List D) (d : D) : m__law_add ds = some d → D.los 0 ds = true ∧ ds.length = 2 := mkP_lo
theorem e__law_add (d0 d1 : D) (h : D.los 0 [d0, d1] = true) : m__law_add [d0, d1] = ob (b__law_add [some d0, some d1] []) finP := mkP_e h rfl rfl
noncomputable def b__law_mul : FS :=
  (sRet (fCP m__law_fr (fCons (fO gMul (fO gIx (fV 0) (fC (.int 0))) (fO gIx (fV 1) (fC (.int 0)))) (fCons (fO gMul (fO gIx (fV 0) (fC (.int 1))) (fO gIx (fV 1) (fC (.int 1)))) fNil))))
noncomputable def m__law_mul : List D → Option D := mkP 2 2 b__law_mul
theorem lo__law_mul (ds : List D) (d : D) : m__law_mul ds = some d → D.los 0 ds = true ∧ ds.length = 2 := mkP_lo
theorem e__law_mul (d0 d1 : D) (h : D.los 0 [d0, d1] = true) : m__law_mul [d0, d1] = ob (b__law_mul [some d0, some d1] []) finP := mkP_e h rfl rfl
noncomputable def b__law_dot : FS :=
  (sSeq (sAsg (fTup (fCons (fC (.int 0)) (fCons (fC (.int 1)) fNil))) (gN 2))
    (sSeq (sFor (iZ (fV 0) (fV 1)) (gT 2 (gsCons (gN 3) (gsCons (gN 4) gsNil))) (sAsg (fCP m__law_add (fCons (fV 2) (fCons (fCP m__law_mul (fCons (fV 3) (fCons (fV 4) fNil))) fNil))) (gN 2)))
    (sRet (fV 2))))
noncomputable def m__law_dot : List D → Option D := mkP 2 5 b__law_dot
theorem lo__law_dot (ds : List D) (d : D) : m__law_dot ds = some d → D.los 0 ds = true ∧ ds.length = 2 := mkP_lo
theorem e__law_dot (d0 d1 : D) (h : D.los 0 [d0, d1] = true) : m__law_dot [d0, d1] = ob (b__law_dot [some d0, some d1, none, none, none] []) finP := mkP_e h rfl rfl
noncomputable def b__law_num : FS :=
  (sSeq (sAsg (fO gIx (fLst (fCons (fC (.int 1)) (fCons (fC (.int 1)) (fCons (fC (.int 1)) (fCons (fC (.int 2)) (fCons (fC (.int 3)) (fCons (fC (.int 5)) fNil))))))) (fL m__law_pick (fCons (fV 0) (fCons (fC (.int 6)) fNil)))) (gN 2))
    (sRet (fCP m__law_fr (fCons (fO gSub (fL m__law_pick (fCons (fV 0) (fCons (fO gAdd (fO gMul (fO gMul (fC (.int 2)) (fV 1)) (fV 2)) (fC (.int 1))) fNil))) (fO gMul (fV 1) (fV 2))) (fCons (fV 2) fNil)))))
noncomputable def m__law_num : GL := mkG 2 3 b__law_num
theorem ln__law_num (ds : List D) (M : Mem) (d : D × Mem) : m__law_num ds M = some d → ds.length = 2 := mkG_len
theorem e__law_num (d0 d1 : D) (M : Mem) : m__law_num [d0, d1] M = ob (ob (b__law_num [some d0, some d1, none] M) finM) (kGc M.length) := mkG_e rfl rfl
noncomputable def b__law_point : FS :=
  (sRet (fL bTuple (fCons (fLc (iR1 (fC (.int 3))) (gN 2) tYesD (fL m__law_num (fCons (fV 0) (fCons (fV 1) fNil))) [2]) fNil)))
noncomputable def m__law_point : GL := mkG 2 3 b__law_point
theorem ln__law_point (ds : List D) (M : Mem) (d : D × Mem) : m__law_point ds M = some d → ds.length = 2 := mkG_len
theorem e__law_point (d0 d1 : D) (M : Mem) : m__law_point [d0, d1] M = ob (ob (b__law_point [some d0, some d1, none] M) finM) (kGc M.length) := mkG_e rfl rfl
noncomputable def b__law_way : FS :=
  (sSeq (sAsg (fLc (iR1 (fC (.int 3))) (gN 3) tYesD (fL m__law_num (fCons (fV 0) (fCons (fV 1) fNil))) [3]) (gN 2))
    (sSeq (sFor (iR1 (fC (.int 3))) (gN 3) (sIf (tV (fO gEq (fL m__law_pick (fCons (fV 0) (fCons (fC (.int 4)) fNil))) (fC (.int 0)))) (sSub (fTup (fCons (fC (.int 0)) (fCons (fC (.int 1)) fNil))) (fV 2) (fV 3)) sNext))
    (sSeq (sIf (tV (fO gEq (fV 2) (fO gMul (fLst (fCons (fTup (fCons (fC (.int 0)) (fCons (fC (.int 1)) fNil))) fNil)) (fC (.int 3))))) (sSub (fO gIx (fLst (fCons (fTup (fCons (fC (.int 1)) (fCons (fC (.int 1)) fNil))) (fCons (fTup (fCons (fU gNeg (fC (.int 1))) (fCons (fC (.int 1)) fNil))) (fCons (fTup (fCons (fC (.int 2)) (fCons (fC (.int 1)) fNil))) fNil)))) (fL m__law_pick (fCons (fV 0) (fCons (fC (.int 3)) fNil)))) (fV 2) (fL m__law_pick (fCons (fV 0) (fCons (fC (.int 3)) fNil)))) sNext)
    (sRet (fL bTuple (fCons (fV 2) fNil))))))
noncomputable def m__law_way : GL := mkG 2 4 b__law_way
theorem ln__law_way (ds : List D) (M : Mem) (d : D × Mem) : m__law_way ds M = some d → ds.length = 2 := mkG_len
theorem e__law_way (d0 d1 : D) (M : Mem) : m__law_way [d0, d1] M = ob (ob (b__law_way [some d0, some d1, none, none] M) finM) (kGc M.length) := mkG_e rfl rfl
noncomputable def b__law_form : FS :=
  (sSeq (sAsg (fL m__law_pick (fCons (fV 0) (fCons (fC (.int 5)) fNil))) (gN 1))
    (sSeq (sIf (tV (fO gLt (fV 1) (fC (.int 2)))) (sSeq (sAsg (fL m__law_point (fCons (fV 0) (fCons (fC (.int 3)) fNil))) (gN 2))
    (sSeq (sAsg (fLc (iR1 (fC (.int 3))) (gN 4) tYesD (fCP m__law_fr (fCons (fO gAdd (fC (.int 1)) (fL m__law_pick (fCons (fV 0) (fCons (fC (.int 6)) fNil)))) (fCons (fO gAdd (fC (.int 1)) (fL m__law_pick (fCons (fV 0) (fCons (fC (.int 2)) fNil)))) fNil))) [4]) (gN 3))
    (sRet (fTup (fCons (fC (.str "box")) (fCons (fV 2) (fCons (fL bTuple (fCons (fLc (iZ (fV 2) (fV 3)) (gT 2 (gsCons (gN 5) (gsCons (gN 6) gsNil))) tYesD (fCP m__law_add (fCons (fV 5) (fCons (fV 6) fNil))) [5, 6]) fNil)) fNil))))))) sNext)
    (sSeq (sIf (tV (fO gEq (fV 1) (fC (.int 2)))) (sRet (fTup (fCons (fC (.str "half")) (fCons (fL m__law_way (fCons (fV 0) (fCons (fC (.int 2)) fNil))) (fCons (fL m__law_num (fCons (fV 0) (fCons (fC (.int 3)) fNil))) fNil))))) sNext)
    (sRet (fTup (fCons (fC (.str "ball")) (fCons (fL m__law_point (fCons (fV 0) (fCons (fC (.int 3)) fNil))) (fCons (fO gIx (fLst (fCons (fTup (fCons (fC (.int 1)) (fCons (fC (.int 1)) fNil))) (fCons (fTup (fCons (fC (.int 2)) (fCons (fC (.int 1)) fNil))) (fCons (fTup (fCons (fC (.int 3)) (fCons (fC (.int 2)) fNil))) (fCons (fTup (fCons (fC (.int 5)) (fCons (fC (.int 1)) fNil))) fNil))))) (fL m__law_pick (fCons (fV 0) (fCons (fC (.int 4)) fNil)))) fNil))))))))
noncomputable def m__law_form : GL := mkG 1 7 b__law_form
theorem ln__law_form (ds : List D) (M : Mem) (d : D × Mem) : m__law_form ds M = some d → ds.length = 1 := mkG_len
theorem e__law_form (d0 : D) (M : Mem) : m__law_form [d0] M = ob (ob (b__law_form [some d0, none, none, none, none, none, none] M) finM) (kGc M.length) := mkG_e rfl rfl
noncomputable def b__law_turn : FS :=
  (sSeq (sAsg (fTup (fCons (fTup (fCons (fTup (fCons (fC (.int 1)) (fCons (fC (.int 1)) fNil))) (fCons (fTup (fCons (fC (.int 0)) (fCons (fC (.int 1)) fNil))) (fCons (fTup (fCons (fC (.int 0)) (fCons (fC (.int 1)) fNil))) fNil)))) (fCons (fTup (fCons (fTup (fCons (fC (.int 0)) (fCons (fC (.int 1)) fNil))) (fCons (fTup (fCons (fC (.int 1)) (fCons (fC (.int 1)) fNil))) (fCons (fTup (fCons (fC (.int 0)) (fCons (fC (.int 1)) fNil))) fNil)))) (fCons (fTup (fCons (fTup (fCons (fC (.int 0)) (fCons (fC (.int 1)) fNil))) (fCons (fTup (fCons (fC (.int 0)) (fCons (fC (.int 1)) fNil))) (fCons (fTup (fCons (fC (.int 1)) (fCons (fC (.int 1)) fNil))) fNil)))) fNil)))) (gN 1))
    (sSeq (sFor (iR1 (fL m__law_pick (fCons (fV 0) (fCons (fC (.int 3)) fNil)))) (gN 2) (sSeq (sAsg (fO gIx (fLst (fCons (fTup (fCons (fTup (fCons (fC (.int 0)) (fCons (fC (.int 1)) fNil))) (fCons (fTup (fCons (fC (.int 1)) (fCons (fC (.int 1)) fNil))) fNil))) (fCons (fTup (fCons (fTup (fCons (fC (.int 3)) (fCons (fC (.int 5)) fNil))) (fCons (fTup (fCons (fC (.int 4)) (fCons (fC (.int 5)) fNil))) fNil))) (fCons (fTup (fCons (fTup (fCons (fU gNeg (fC (.int 1))) (fCons (fC (.int 1)) fNil))) (fCons (fTup (fCons (fC (.int 0)) (fCons (fC (.int 1)) fNil))) fNil))) (fCons (fTup (fCons (fTup (fCons (fC (.int 5)) (fCons (fC (.int 13)) fNil))) (fCons (fTup (fCons (fU gNeg (fC (.int 12))) (fCons (fC (.int 13)) fNil))) fNil))) fNil))))) (fL m__law_pick (fCons (fV 0) (fCons (fC (.int 4)) fNil)))) (gT 2 (gsCons (gN 3) (gsCons (gN 4) gsNil))))
    (sSeq (sAsg (fTup (fCons (fO gSub (fC (.int 0)) (fO gIx (fV 4) (fC (.int 0)))) (fCons (fO gIx (fV 4) (fC (.int 1))) fNil))) (gN 5))
    (sSeq (sAsg (fLst (fCons (fTup (fCons (fTup (fCons (fC (.int 1)) (fCons (fC (.int 1)) fNil))) (fCons (fTup (fCons (fC (.int 0)) (fCons (fC (.int 1)) fNil))) (fCons (fTup (fCons (fC (.int 0)) (fCons (fC (.int 1)) fNil))) fNil)))) (fCons (fTup (fCons (fTup (fCons (fC (.int 0)) (fCons (fC (.int 1)) fNil))) (fCons (fV 3) (fCons (fV 5) fNil)))) (fCons (fTup (fCons (fTup (fCons (fC (.int 0)) (fCons (fC (.int 1)) fNil))) (fCons (fV 4) (fCons (fV 3) fNil)))) fNil)))) (gN 6))
    (sSeq (sAsg (fLst (fCons (fTup (fCons (fV 3) (fCons (fTup (fCons (fC (.int 0)) (fCons (fC (.int 1)) fNil))) (fCons (fV 4) fNil)))) (fCons (fTup (fCons (fTup (fCons (fC (.int 0)) (fCons (fC (.int 1)) fNil))) (fCons (fTup (fCons (fC (.int 1)) (fCons (fC (.int 1)) fNil))) (fCons (fTup (fCons (fC (.int 0)) (fCons (fC (.int 1)) fNil))) fNil)))) (fCons (fTup (fCons (fV 5) (fCons (fTup (fCons (fC (.int 0)) (fCons (fC (.int 1)) fNil))) (fCons (fV 3) fNil)))) fNil)))) (gN 7))
    (sSeq (sAsg (fLst (fCons (fTup (fCons (fV 3) (fCons (fV 5) (fCons (fTup (fCons (fC (.int 0)) (fCons (fC (.int 1)) fNil))) fNil)))) (fCons (fTup (fCons (fV 4) (fCons (fV 3) (fCons (fTup (fCons (fC (.int 0)) (fCons (fC (.int 1)) fNil))) fNil)))) (fCons (fTup (fCons (fTup (fCons (fC (.int 0)) (fCons (fC (.int 1)) fNil))) (fCons (fTup (fCons (fC (.int 0)) (fCons (fC (.int 1)) fNil))) (fCons (fTup (fCons (fC (.int 1)) (fCons (fC (.int 1)) fNil))) fNil)))) fNil)))) (gN 8))
    (sSeq (sAsg (fO gIx (fLst (fCons (fV 6) (fCons (fV 7) (fCons (fV 8) fNil)))) (fL m__law_pick (fCons (fV 0) (fCons (fC (.int 3)) fNil)))) (gN 9))
    (sSeq (sAsg (fLc (iR1 (fC (.int 3))) (gN 2) tYesD (fL bTuple (fCons (fLc (iE (fV 1)) (gN 11) tYesD (fO gIx (fV 11) (fV 2)) [11]) fNil)) [2]) (gN 10))
    (sAsg (fL bTuple (fCons (fLc (iE (fV 9)) (gN 11) tYesD (fL bTuple (fCons (fLc (iE (fV 10)) (gN 12) tYesD (fCP m__law_dot (fCons (fV 11) (fCons (fV 12) fNil))) [12]) fNil)) [11]) fNil)) (gN 1))))))))))
    (sRet (fV 1))))
noncomputable def m__law_turn : GL := mkG 1 13 b__law_turn
theorem ln__law_turn (ds : List D) (M : Mem) (d : D × Mem) : m__law_turn ds M = some d → ds.length = 1 := mkG_len
theorem e__law_turn (d0 : D) (M : Mem) : m__law_turn [d0] M = ob (ob (b__law_turn [some d0, none, none, none, none, none, none, none, none, none, none, none, none] M) finM) (kGc M.length) := mkG_e rfl rfl
noncomputable def b__law_there : FS :=
  (sRet (fL bTuple (fCons (fLc (iR1 (fC (.int 3))) (gN 3) tYesD (fCP m__law_add (fCons (fCP m__law_dot (fCons (fO gIx (fV 0) (fV 3)) (fCons (fV 2) fNil))) (fCons (fO gIx (fV 1) (fV 3)) fNil))) [3]) fNil)))
noncomputable def m__law_there : List D → Option D := mkP 3 4 b__law_there
theorem lo__law_there (ds : List D) (d : D) : m__law_there ds = some d → D.los 0 ds = true ∧ ds.length = 3 := mkP_lo
theorem e__law_there (d0 d1 d2 : D) (h : D.los 0 [d0, d1, d2] = true) : m__law_there [d0, d1, d2] = ob (b__law_there [some d0, some d1, some d2, none] []) finP := mkP_e h rfl rfl
noncomputable def b_law : FS :=
  (sSeq (sAsg (fL m__law_open (fCons (fV 0) fNil)) (gN 1))
    (sSeq (sAsg (fTup (fCons (fTup (fCons (fTup (fCons (fC (.int 1)) (fCons (fC (.int 1)) fNil))) (fCons (fTup (fCons (fC (.int 0)) (fCons (fC (.int 1)) fNil))) (fCons (fTup (fCons (fC (.int 0)) (fCons (fC (.int 1)) fNil))) fNil)))) (fCons (fTup (fCons (fTup (fCons (fC (.int 0)) (fCons (fC (.int 1)) fNil))) (fCons (fTup (fCons (fC (.int 1)) (fCons (fC (.int 1)) fNil))) (fCons (fTup (fCons (fC (.int 0)) (fCons (fC (.int 1)) fNil))) fNil)))) (fCons (fTup (fCons (fTup (fCons (fC (.int 0)) (fCons (fC (.int 1)) fNil))) (fCons (fTup (fCons (fC (.int 0)) (fCons (fC (.int 1)) fNil))) (fCons (fTup (fCons (fC (.int 1)) (fCons (fC (.int 1)) fNil))) fNil)))) fNil)))) (gN 2))
    (sSeq (sAsg (fTup (fCons (fTup (fCons (fC (.int 0)) (fCons (fC (.int 1)) fNil))) (fCons (fTup (fCons (fC (.int 0)) (fCons (fC (.int 1)) fNil))) (fCons (fTup (fCons (fC (.int 0)) (fCons (fC (.int 1)) fNil))) fNil)))) (gN 3))
    (sSeq (sFor (iR1 (fC (.int 4))) (gN 4) (sSeq (sAsg (fL m__law_form (fCons (fV 1) fNil)) (gN 5))
    (sSeq (sAsg (fL m__law_turn (fCons (fV 1) fNil)) (gN 6))
    (sSeq (sAsg (fL m__law_point (fCons (fV 1) (fCons (fC (.int 3)) fNil))) (gN 7))
    (sSeq (sAsg (fL m__law_point (fCons (fV 1) (fCons (fC (.int 4)) fNil))) (gN 8))
    (sSeq (sAsg (fL m__law_way (fCons (fV 1) (fCons (fC (.int 3)) fNil))) (gN 9))
    (sSeq (sAsg (fCP m_leaf_stretch (fCons (fTup (fCons (fC (.str "d")) (fCons (fV 5) (fCons (fV 2) (fCons (fV 3) fNil))))) (fCons (fTup (fCons (fV 8) (fCons (fV 9) fNil))) fNil))) (gN 10))
    (sSeq (sAsg (fTup (fCons (fCP m__law_there (fCons (fV 6) (fCons (fV 7) (fCons (fV 8) fNil)))) (fCons (fCP m__law_there (fCons (fV 6) (fCons (fV 3) (fCons (fV 9) fNil)))) fNil))) (gN 11))
    (sSeq (sIf (tNo (tTr (fCP (m__law_same 12) (fCons (fCP m_leaf_stretch (fCons (fTup (fCons (fC (.str "d")) (fCons (fV 5) (fCons (fV 6) (fCons (fV 7) fNil))))) (fCons (fV 11) fNil))) (fCons (fV 10) fNil))))) (sRet (fC (.bl false))) sNext)
    (sSeq (sAsg (fL m__law_turn (fCons (fV 1) fNil)) (gN 12))
    (sSeq (sAsg (fL m__law_point (fCons (fV 1) (fCons (fC (.int 2)) fNil))) (gN 13))
    (sSeq (sAsg (fLst fNil) (gN 14))
    (sSeq (sFor (iE (fV 12)) (gN 15) (sDrop (fML mApp (fV 14) (fCons (fL bTuple (fCons (fLc (iR1 (fC (.int 3))) (gN 18) tYesD (fCP m__law_dot (fCons (fV 15) (fCons (fL bTuple (fCons (fLc (iE (fV 6)) (gN 19) tYesD (fO gIx (fV 19) (fV 18)) [19]) fNil)) fNil))) [18]) fNil)) fNil))))
    (sSeq (sAsg (fTup (fCons (fCP m__law_there (fCons (fV 12) (fCons (fV 13) (fCons (fO gIx (fV 11) (fC (.int 0))) fNil)))) (fCons (fCP m__law_there (fCons (fV 12) (fCons (fV 3) (fCons (fO gIx (fV 11) (fC (.int 1))) fNil)))) fNil))) (gN 16))
    (sSeq (sAsg (fTup (fCons (fC (.str "e")) (fCons (fV 5) (fCons (fL bTuple (fCons (fV 14) fNil)) (fCons (fCP m__law_there (fCons (fV 12) (fCons (fV 13) (fCons (fV 7) fNil)))) fNil))))) (gN 17))
    (sIf (tNo (tTr (fCP (m__law_same 12) (fCons (fCP m_leaf_stretch (fCons (fV 17) (fCons (fV 16) fNil))) (fCons (fV 10) fNil))))) (sRet (fC (.bl false))) sNext))))))))))))))))
    (sRet (fC (.bl true)))))))
noncomputable def m_law : GL := mkM 1 20 b_law
theorem ln_law (ds : List D) (M : Mem) (d : D × Mem) : m_law ds M = some d → ds.length = 1 := mkM_len
theorem e_law (d0 : D) (M : Mem) : m_law [d0] M = ob (b_law [some d0, none, none, none, none, none, none, none, none, none, none, none, none, none, none, none, none, none, none, none] M) finM := mkM_e rfl rfl

/-! ### fractions -/
def eF (q : Rat) : D := .tup [.int q.num, .int (q.den : Int)]
theorem lo_eF (n : Nat) (q : Rat) : D.lo n (eF q) = true := rfl
theorem los_nil (n : Nat) : D.los n [] = true := rfl
theorem los_cons (n : Nat) (d : D) (ds : List D) : D.los n (d :: ds) = (D.lo n d && D.los n ds) := rfl
theorem lo_int (n : Nat) (i : Int) : D.lo n (.int i) = true := rfl
theorem lo_tup (n : Nat) (ds : List D) : D.lo n (.tup ds) = D.los n ds := rfl
theorem ix_eF0 (q : Rat) (M : Mem) : gIx (eF q) (.int 0) M = some (.int q.num, M) := rfl
theorem ix_eF1 (q : Rat) (M : Mem) : gIx (eF q) (.int 1) M = some (.int (q.den : Int), M) := rfl
/-- the loop of frac -/
theorem frac_loop (x0 x1 : Option D) (M : Mem) (a b : Int) : ∀ (n : Nat) (x y : Int), y.natAbs < n → GInv a b x y → wl (tTr (fV 3)) (sPar 2 3 (fCons (fV 3) (fCons (fO gMod (fV 2) (fV 3)) fNil))) n [x0, x1, some (.int x), some (.int y)] M = some (.nx [x0, x1, some (.int (sg a b)), some (.int 0)], M)
  | 0, _, _, h, _ => absurd h (by omega)
  | n + 1, x, y, h, g => by
    unfold wl
    by_cases hy : y = 0
    · subst hy
      rw [← g.fin]
      rfl
    · obtain ⟨g', hm⟩ := g.next hy
      have ih := frac_loop x0 x1 M a b n y (x.fmod y) (by omega) g'
      have e1 : tTr (fV 3) [x0, x1, some (.int x), some (.int y)] M = some (true, M) := by
        simp only [↓ev_V, ↓ev_C, ↓ev_O, ↓ev_U, ↓ev_Nil, ↓ev_Cons, ↓ev_L, ↓ev_If, ↓ev_tV, ↓ev_tTr, ↓ev_tAn, ↓ev_tOr, ↓ev_tNo, ↓ev_NotB, ↓ev_AnB, ↓ev_OrB, ↓ev_Tup, ↓ev_Lst, ↓ev_CP, ↓ev_ML, ↓ev_Sli, ↓ev_oN, ↓ev_oS, ↓ev_Ch, ↓ev_gN, ↓ev_gsNil, ↓ev_gsCons, ↓ev_gT, ↓ev_Seq, ↓ev_Asg, ↓ev_Par, ↓ev_Ret, ↓ev_Drop, ↓ev_sIf, ↓ev_Next, ↓ev_Brk, ↓ev_Cont, ↓ev_RetN, ↓ev_Sub, ↓ev_For, ↓ev_body, ↓ev_iE, ↓ev_iR1, ↓ev_iR2, ↓ev_iZ, ↓ev_iEn, ↓ev_item, ↓ev_Lc, ↓ev_Yes, ↓ev_Par3, ↓ev_As2, ↓ev_As4, ↓ev_CV, ↓ev_Fld, ↓ev_Mk, ↓ev_Mk0, ↓ev_Mt, ↓ev_ForM, ↓ev_bodyM, ↓ev_gTmT, ↓ev_gTmR, ↓ev_AsgM, ↓ev_Star, ↓ev_Dc, ↓ev_iRv, kForM_e, kAsgM_e, kSt1_e, kSt2_e, kSt3_e, seqT, seqRf, popRf, insRf, inE, notInE, kDc_e, kRv_e, revT, revL, vOf_e, kO_e, kO2_e, kU_e, kCons_e, kCons2_e, kL_e, kIf_t, kIf_f, kB_e, kTr_e, kTr2_e, kAn_t, kAn_f, kOr_t, kOr_f, kNo_e, kNotB_e, kAnB_t, kAnB_f, kOrB_t, kOrB_f, kTup_e, kLst_e, kCP_e, kD_e, kML_e, kML2_e, kS1_e, kS2_e, kS3_e, kI_e, kCh1_e, kCh2_e, kCh3_t, kCh3_f, kAsg_e, kNx_e, kRet_e, kDrop_e, kSif_t, kSif_f, kSub1_e, kSub2_e, kSub3_e, kNxM_e, kFor_e, kBody_e, kIE_e, kSrc_e, kR1_e, kR2_e, kR2b_e, kZ1_e, kZ2_e, kEn_e, kMap_e, kMap2_e, kIt1_e, kIt2_t, kIt2_f, kSome_e, kLc_e, kLc2_e, kGc_e, par3_e, kAs2_e, kAs3_e, kAs4_e, kAs5_e, kAs6_e, fnOf2_e, fnV_e, kCV_e, kFld1_e, kFld2_e, kMk_e, kMk2_e, kMt_e, kMt2_e, kMt3_e, gFldE, setFE, metE, insAt_zero, insAt_succ, ob_s, ob_n, then_nx, then_rt, then_bk, then_ct, par2_e, turn_nx, turn_ct, turn_bk, turn_rt, runT_nil, runT_cons, mapT_nil, mapT_cons, finP_nx, finM_rt, finM_nx, addE, subE, negE, cmpE, ixT, truI, truB, at0, at1, at2, at3, List.getElem?_cons_zero, List.getElem?_cons_succ, List.set_cons_zero, List.set_cons_succ, List.length_cons, List.length_nil, Nat.reduceAdd, Nat.reduceLeDiff, if_true, if_false, reduceIte, reduceCtorEq, id_eq, Bool.not_true, Bool.not_false, Bool.false_eq_true, and_self, Int.reduceLE, Int.reduceLT, Int.reduceNeg, decide_true, decide_false, Option.toList_some, Option.toList_none, List.cons_append, List.nil_append, ixRf, tupRf, lenRf, listRf, isLstRf, appRf, revRf, setRf, itemsRf, itemsT, itemsL, zipT, zipRf, allRf, anyRf, sumRf, tupT, slRf, isiE, t2E, lenT, lstAt_zero, lstAt_succ, Option.isSome_some, Nat.reduceLT, Bool.or_true, Bool.or_false, Bool.true_or, Bool.false_or, gIsN, gNotN, D.isNon, wipeD]
        simp [hy]
      have e2 : sPar 2 3 (fCons (fV 3) (fCons (fO gMod (fV 2) (fV 3)) fNil)) [x0, x1, some (.int x), some (.int y)] M = some (.nx [x0, x1, some (.int y), some (.int (x.fmod y))], M) := by
        simp only [↓ev_V, ↓ev_C, ↓ev_O, ↓ev_U, ↓ev_Nil, ↓ev_Cons, ↓ev_L, ↓ev_If, ↓ev_tV, ↓ev_tTr, ↓ev_tAn, ↓ev_tOr, ↓ev_tNo, ↓ev_NotB, ↓ev_AnB, ↓ev_OrB, ↓ev_Tup, ↓ev_Lst, ↓ev_CP, ↓ev_ML, ↓ev_Sli, ↓ev_oN, ↓ev_oS, ↓ev_Ch, ↓ev_gN, ↓ev_gsNil, ↓ev_gsCons, ↓ev_gT, ↓ev_Seq, ↓ev_Asg, ↓ev_Par, ↓ev_Ret, ↓ev_Drop, ↓ev_sIf, ↓ev_Next, ↓ev_Brk, ↓ev_Cont, ↓ev_RetN, ↓ev_Sub, ↓ev_For, ↓ev_body, ↓ev_iE, ↓ev_iR1, ↓ev_iR2, ↓ev_iZ, ↓ev_iEn, ↓ev_item, ↓ev_Lc, ↓ev_Yes, ↓ev_Par3, ↓ev_As2, ↓ev_As4, ↓ev_CV, ↓ev_Fld, ↓ev_Mk, ↓ev_Mk0, ↓ev_Mt, ↓ev_ForM, ↓ev_bodyM, ↓ev_gTmT, ↓ev_gTmR, ↓ev_AsgM, ↓ev_Star, ↓ev_Dc, ↓ev_iRv, kForM_e, kAsgM_e, kSt1_e, kSt2_e, kSt3_e, seqT, seqRf, popRf, insRf, inE, notInE, kDc_e, kRv_e, revT, revL, vOf_e, kO_e, kO2_e, kU_e, kCons_e, kCons2_e, kL_e, kIf_t, kIf_f, kB_e, kTr_e, kTr2_e, kAn_t, kAn_f, kOr_t, kOr_f, kNo_e, kNotB_e, kAnB_t, kAnB_f, kOrB_t, kOrB_f, kTup_e, kLst_e, kCP_e, kD_e, kML_e, kML2_e, kS1_e, kS2_e, kS3_e, kI_e, kCh1_e, kCh2_e, kCh3_t, kCh3_f, kAsg_e, kNx_e, kRet_e, kDrop_e, kSif_t, kSif_f, kSub1_e, kSub2_e, kSub3_e, kNxM_e, kFor_e, kBody_e, kIE_e, kSrc_e, kR1_e, kR2_e, kR2b_e, kZ1_e, kZ2_e, kEn_e, kMap_e, kMap2_e, kIt1_e, kIt2_t, kIt2_f, kSome_e, kLc_e, kLc2_e, kGc_e, par3_e, kAs2_e, kAs3_e, kAs4_e, kAs5_e, kAs6_e, fnOf2_e, fnV_e, kCV_e, kFld1_e, kFld2_e, kMk_e, kMk2_e, kMt_e, kMt2_e, kMt3_e, gFldE, setFE, metE, insAt_zero, insAt_succ, ob_s, ob_n, then_nx, then_rt, then_bk, then_ct, par2_e, turn_nx, turn_ct, turn_bk, turn_rt, runT_nil, runT_cons, mapT_nil, mapT_cons, finP_nx, finM_rt, finM_nx, addE, subE, negE, cmpE, ixT, truI, truB, at0, at1, at2, at3, List.getElem?_cons_zero, List.getElem?_cons_succ, List.set_cons_zero, List.set_cons_succ, List.length_cons, List.length_nil, Nat.reduceAdd, Nat.reduceLeDiff, if_true, if_false, reduceIte, reduceCtorEq, id_eq, Bool.not_true, Bool.not_false, Bool.false_eq_true, and_self, Int.reduceLE, Int.reduceLT, Int.reduceNeg, decide_true, decide_false, Option.toList_some, Option.toList_none, List.cons_append, List.nil_append, ixRf, tupRf, lenRf, listRf, isLstRf, appRf, revRf, setRf, itemsRf, itemsT, itemsL, zipT, zipRf, allRf, anyRf, sumRf, tupT, slRf, isiE, t2E, lenT, lstAt_zero, lstAt_succ, Option.isSome_some, Nat.reduceLT, Bool.or_true, Bool.or_false, Bool.true_or, Bool.false_or, gIsN, gNotN, D.isNon, wipeD, modE hy]
      rw [e1]
      simp only [Option.bind_some, if_true, e2]
      exact ih

/-! ### numbers, further -/
theorem bt_abs {m : Nat} {x : Int} (h1 : -(2 ^ m) < x) (h2 : x < 2 ^ m) : Bt m x := by
  unfold Bt
  have : ((x.natAbs : Nat) : Int) < ((2 ^ m : Nat) : Int) := by
    have e : ((2 ^ m : Nat) : Int) = (2 : Int) ^ m := by simp
    rw [e]
    omega
  exact Int.ofNat_lt.mp this
theorem eF_int (n : Int) : D.tup [.int n, .int 1] = eF (n : Rat) := by
  unfold eF
  rw [Rat.num_intCast, Rat.den_intCast]
  rfl
theorem rb_int {m : Nat} (hm : 1 ≤ m) {x : Int} (h : Bt m x) : Rb m (x : Rat) := by
  unfold Rb
  rw [Rat.num_intCast, Rat.den_intCast]
  exact ⟨h, Bt.mono (m := 1) (by unfold Bt; decide) hm⟩
theorem rat_div_of {x y z : Rat} (h : y ≠ 0) (e : x = z * y) : x / y = z := by
  rw [e, Rat.div_def, Rat.mul_assoc, Rat.mul_inv_cancel _ h, Rat.mul_one]
theorem rat_mul_of {x y z : Rat} (h : y ≠ 0) (e : z = x / y) : x = z * y := by
  rw [e, Rat.div_def, Rat.mul_assoc, Rat.inv_mul_cancel _ h, Rat.mul_one]
theorem mul_small {i j : Int} (h1 : -(2 ^ 64) < i) (h2 : i < 2 ^ 64) (h3 : -(2 ^ 64) < j) (h4 : j < 2 ^ 64) : MulOk i j := mul_bt (bt_abs (m := 64) h1 h2) (bt_abs (m := 64) h3 h4) (by decide)
theorem upto3 : upto 0 (Int.toNat 3) = [.int 0, .int 1, .int 2] := rfl
theorem new_at {A B : Mem} {c : Cell} (C : Mem) {n : Nat} (h : A.length = n) : (A ++ (B ++ c :: C))[n + B.length]? = some c := by
  subst h
  rw [← List.append_assoc, List.getElem?_append_right (by simp)]
  simp
theorem new_at0 {A : Mem} {c : Cell} (C : Mem) {n : Nat} (h : A.length = n) : (A ++ c :: C)[n]? = some c := by
  subst h
  simp

/-! ### sizes by themselves -/
class Bg (n : outParam Nat) (i : Int) : Prop where
  one : 1 ≤ n
  bt : Bt (100 * n) i
theorem bg_pow {m n : Nat} (hm : 1 ≤ m) (hn : 1 ≤ n) : 2 ^ (100 * m) + 2 ^ (100 * n) ≤ 2 ^ (100 * (m + n)) := by
  have h1 : 2 ^ (100 * m) ≤ 2 ^ (100 * (m + n) - 1) := Nat.pow_le_pow_right (by decide) (by omega)
  have h2 : 2 ^ (100 * n) ≤ 2 ^ (100 * (m + n) - 1) := Nat.pow_le_pow_right (by decide) (by omega)
  have h3 : 2 ^ (100 * (m + n)) = 2 ^ (100 * (m + n) - 1) * 2 := by
    rw [← Nat.pow_succ]
    congr 1
    omega
  omega
instance bg_mul {m n : Nat} {i j : Int} [a : Bg m i] [b : Bg n j] : Bg (m + n) (i * j) := ⟨by have := a.one; omega, (a.bt.mul b.bt).mono (by omega)⟩
instance bg_add {m n : Nat} {i j : Int} [a : Bg m i] [b : Bg n j] : Bg (m + n) (i + j) := ⟨by have := a.one; omega, by
  have h := bg_pow a.one b.one
  have h1 := a.bt
  have h2 := b.bt
  unfold Bt at *
  omega⟩
instance bg_sub {m n : Nat} {i j : Int} [a : Bg m i] [b : Bg n j] : Bg (m + n) (i - j) := ⟨by have := a.one; omega, by
  have h := bg_pow a.one b.one
  have h1 := a.bt
  have h2 := b.bt
  unfold Bt at *
  omega⟩
instance bg_neg {m : Nat} {i : Int} [a : Bg m i] : Bg m (-i) := ⟨a.one, a.bt.neg⟩
theorem bg_small {i : Int} (h1 : -(2 ^ 100) < i) (h2 : i < 2 ^ 100) : Bg 1 i := ⟨by decide, bt_abs (m := 100) h1 h2⟩
instance : Bg 1 0 := bg_small (by decide) (by decide)
instance : Bg 1 1 := bg_small (by decide) (by decide)
instance : Bg 1 2 := bg_small (by decide) (by decide)
instance : Bg 1 3 := bg_small (by decide) (by decide)
instance : Bg 1 4 := bg_small (by decide) (by decide)
theorem mulT {m n : Nat} {i j : Int} [a : Bg m i] [b : Bg n j] (h : m + n ≤ 100000) (M : Mem) : gMul (.int i) (.int j) M = some (.int (i * j), M) := mulE (mul_bt a.bt b.bt (by omega)) M
theorem rb_bg {m n : Nat} {q : Rat} (h : Rb m q) (hm : m ≤ 100 * n) (hn : 1 ≤ n) : Bg n q.num ∧ Bg n (q.den : Int) := ⟨⟨hn, h.1.mono hm⟩, ⟨hn, h.2.mono hm⟩⟩
theorem bg_bt {n : Nat} {i : Int} (m : Nat) (a : Bg n i) (h : 100 * n ≤ m) : Bt m i := a.bt.mono h

/-! ### loops by what holds between two turns -/
theorem run_inv {gd : Mem → Prop} {body : D → Rho → Mem → Option (Fl × Mem)} (I : Rho → Mem → Prop) (hg : ∀ ρ M, I ρ M → gd M) : ∀ (ds : List D) (ρ : Rho) (M : Mem), (∀ d ∈ ds, ∀ ρ M, I ρ M → ∃ ρ' M', body d ρ M = some (.nx ρ', M') ∧ I ρ' M') → I ρ M → ∃ ρ' M', runG gd body ds ρ M = some (.nx ρ', M') ∧ I ρ' M'
  | [], ρ, M, _, i => ⟨ρ, M, runG_nil _ _ _ _ (hg ρ M i), i⟩
  | d :: ds, ρ, M, h, i => by
    obtain ⟨ρ1, M1, e, i1⟩ := h d List.mem_cons_self ρ M i
    obtain ⟨ρ2, M2, e2, i2⟩ := run_inv I hg ds ρ1 M1 (fun d' hd => h d' (List.mem_cons_of_mem _ hd)) i1
    exact ⟨ρ2, M2, by rw [runG_cons _ _ _ _ _ _ (hg ρ M i), e]; exact e2, i2⟩
theorem set_new {A B : Mem} {c c' : Cell} {C : Mem} {n : Nat} (h : A.length = n) : (A ++ (B ++ c :: C)).set (n + B.length) c' = A ++ (B ++ c' :: C) := by
  subst h
  rw [List.set_append_right _ _ (by omega), Nat.add_sub_cancel_left, List.set_append_right _ _ (Nat.le_refl _), Nat.sub_self]
  rfl

theorem run_n {gd : Mem → Prop} {body : D → Rho → Mem → Option (Fl × Mem)} (I : Nat → Rho → Mem → Prop) (hg : ∀ i ρ M, I i ρ M → gd M) : ∀ (ds : List D) (n : Nat) (ρ : Rho) (M : Mem), (∀ (j : Nat) (d : D), ds[j]? = some d → ∀ ρ M, I (n + j) ρ M → ∃ ρ' M', body d ρ M = some (.nx ρ', M') ∧ I (n + j + 1) ρ' M') → I n ρ M → ∃ ρ' M', runG gd body ds ρ M = some (.nx ρ', M') ∧ I (n + ds.length) ρ' M'
  | [], n, ρ, M, _, i => ⟨ρ, M, runG_nil _ _ _ _ (hg n ρ M i), i⟩
  | d :: ds, n, ρ, M, h, i => by
    obtain ⟨ρ1, M1, e, i1⟩ := h 0 d rfl ρ M i
    obtain ⟨ρ2, M2, e2, i2⟩ := run_n I hg ds (n + 1) ρ1 M1 (fun j d' hd ρ M i => by
      have := h (j + 1) d' (by simpa using hd) ρ M (by rw [show n + (j + 1) = n + 1 + j by omega]; exact i)
      rw [show n + (j + 1) + 1 = n + 1 + j + 1 by omega] at this
      exact this) i1
    exact ⟨ρ2, M2, by rw [runG_cons _ _ _ _ _ _ (hg n ρ M i), e]; exact e2, by rw [List.length_cons, show n + (ds.length + 1) = n + 1 + ds.length by omega]; exact i2⟩
theorem upto_get {lo : Int} {n j : Nat} {d : D} (h : (upto lo n)[j]? = some d) : j < n ∧ d = .int (lo + j) := by
  simp only [upto, List.getElem?_map, Option.map_eq_some_iff] at h
  obtain ⟨i, e, rfl⟩ := h
  obtain ⟨h1, h2⟩ := List.getElem?_eq_some_iff.mp e
  simp at h1 h2
  subst h2
  exact ⟨h1, rfl⟩
theorem upto_len (lo : Int) (n : Nat) : (upto lo n).length = n := by simp [upto]
theorem at4 (a b c d e : D) (l : List D) : atI (a :: b :: c :: d :: e :: l) 4 = some e := by simp [atI, ixN, show (4 : Int) < (l.length : Int) + 1 + 1 + 1 + 1 + 1 by omega]
section
variable {l : Nat} {xs : List D} {M : Mem} (h : M[l]? = some (.lst xs))
include h
theorem runL_cons (body : D → Rho → Mem → Option (Fl × Mem)) (d : D) (ds : List D) (ρ : Rho) : runG (fun M' => M'[l]? = some (.lst xs)) body (d :: ds) ρ M = ob (body d ρ M) (turn (runG (fun M' => M'[l]? = some (.lst xs)) body ds)) := runG_cons (h := h) ..
theorem runL_nil (body : D → Rho → Mem → Option (Fl × Mem)) (ρ : Rho) : runG (fun M' => M'[l]? = some (.lst xs)) body [] ρ M = some (.nx ρ, M) := runG_nil (h := h) ..
theorem mapL_cons (it : D → Mem → Option (Option D × Mem)) (d : D) (ds : List D) : mapG (fun M' => M'[l]? = some (.lst xs)) it (d :: ds) M = ob (it d M) (kMap (fun M' => M'[l]? = some (.lst xs)) it ds) := mapG_cons (h := h) ..
theorem mapL_nil (it : D → Mem → Option (Option D × Mem)) : mapG (fun M' => M'[l]? = some (.lst xs)) it [] M = some ([], M) := mapG_nil (h := h) ..
end

theorem frac_e {a b : Int} (hb : b ≠ 0) (h : Bt 9000 b) : m_frac [.int a, .int b] = some (eF (Rat.divInt a b)) := by
  have w := sWhile_of (frac_loop (some (.int a)) (some (.int b)) [] a b _ b (a.fmod b) (Nat.lt_succ_self _) (GInv.start hb))
  obtain ⟨hs, hs'⟩ := sg_ne (a := a) hb
  rw [e_frac _ _ rfl]
  unfold b_frac
  simp only [↓ev_V, ↓ev_C, ↓ev_O, ↓ev_U, ↓ev_Nil, ↓ev_Cons, ↓ev_L, ↓ev_If, ↓ev_tV, ↓ev_tTr, ↓ev_tAn, ↓ev_tOr, ↓ev_tNo, ↓ev_NotB, ↓ev_AnB, ↓ev_OrB, ↓ev_Tup, ↓ev_Lst, ↓ev_CP, ↓ev_ML, ↓ev_Sli, ↓ev_oN, ↓ev_oS, ↓ev_Ch, ↓ev_gN, ↓ev_gsNil, ↓ev_gsCons, ↓ev_gT, ↓ev_Seq, ↓ev_Asg, ↓ev_Par, ↓ev_Ret, ↓ev_Drop, ↓ev_sIf, ↓ev_Next, ↓ev_Brk, ↓ev_Cont, ↓ev_RetN, ↓ev_Sub, ↓ev_For, ↓ev_body, ↓ev_iE, ↓ev_iR1, ↓ev_iR2, ↓ev_iZ, ↓ev_iEn, ↓ev_item, ↓ev_Lc, ↓ev_Yes, ↓ev_Par3, ↓ev_As2, ↓ev_As4, ↓ev_CV, ↓ev_Fld, ↓ev_Mk, ↓ev_Mk0, ↓ev_Mt, ↓ev_ForM, ↓ev_bodyM, ↓ev_gTmT, ↓ev_gTmR, ↓ev_AsgM, ↓ev_Star, ↓ev_Dc, ↓ev_iRv, kForM_e, kAsgM_e, kSt1_e, kSt2_e, kSt3_e, seqT, seqRf, popRf, insRf, inE, notInE, kDc_e, kRv_e, revT, revL, vOf_e, kO_e, kO2_e, kU_e, kCons_e, kCons2_e, kL_e, kIf_t, kIf_f, kB_e, kTr_e, kTr2_e, kAn_t, kAn_f, kOr_t, kOr_f, kNo_e, kNotB_e, kAnB_t, kAnB_f, kOrB_t, kOrB_f, kTup_e, kLst_e, kCP_e, kD_e, kML_e, kML2_e, kS1_e, kS2_e, kS3_e, kI_e, kCh1_e, kCh2_e, kCh3_t, kCh3_f, kAsg_e, kNx_e, kRet_e, kDrop_e, kSif_t, kSif_f, kSub1_e, kSub2_e, kSub3_e, kNxM_e, kFor_e, kBody_e, kIE_e, kSrc_e, kR1_e, kR2_e, kR2b_e, kZ1_e, kZ2_e, kEn_e, kMap_e, kMap2_e, kIt1_e, kIt2_t, kIt2_f, kSome_e, kLc_e, kLc2_e, kGc_e, par3_e, kAs2_e, kAs3_e, kAs4_e, kAs5_e, kAs6_e, fnOf2_e, fnV_e, kCV_e, kFld1_e, kFld2_e, kMk_e, kMk2_e, kMt_e, kMt2_e, kMt3_e, gFldE, setFE, metE, insAt_zero, insAt_succ, ob_s, ob_n, then_nx, then_rt, then_bk, then_ct, par2_e, turn_nx, turn_ct, turn_bk, turn_rt, runT_nil, runT_cons, mapT_nil, mapT_cons, finP_nx, finM_rt, finM_nx, addE, subE, negE, cmpE, ixT, truI, truB, at0, at1, at2, at3, List.getElem?_cons_zero, List.getElem?_cons_succ, List.set_cons_zero, List.set_cons_succ, List.length_cons, List.length_nil, Nat.reduceAdd, Nat.reduceLeDiff, if_true, if_false, reduceIte, reduceCtorEq, id_eq, Bool.not_true, Bool.not_false, Bool.false_eq_true, and_self, Int.reduceLE, Int.reduceLT, Int.reduceNeg, decide_true, decide_false, Option.toList_some, Option.toList_none, List.cons_append, List.nil_append, ixRf, tupRf, lenRf, listRf, isLstRf, appRf, revRf, setRf, itemsRf, itemsT, itemsL, zipT, zipRf, allRf, anyRf, sumRf, tupT, slRf, isiE, t2E, lenT, lstAt_zero, lstAt_succ, Option.isSome_some, Nat.reduceLT, Bool.or_true, Bool.or_false, Bool.true_or, Bool.false_or, gIsN, gNotN, D.isNon, wipeD, modE hb, w, fdE hs (h.le hs')]
  rw [sg_num hb, sg_den hb]
  exact finP_rt _ _ (lo_eF 0 _)
/-- two fractions, one operation -/
theorem two_rb {m n : Nat} {q r : Rat} (hq : Rb m q) (hr : Rb n r) (h : m + n ≤ 9000) : MulOk q.num r.den ∧ MulOk r.num q.den ∧ MulOk q.den r.den ∧ MulOk q.num r.num ∧ MulOk q.den r.num ∧ Bt 9000 ((q.den : Int) * (r.den : Int)) ∧ Bt 9000 ((q.den : Int) * r.num) :=
  ⟨mul_bt hq.1 hr.2 (by omega), mul_bt hr.1 hq.2 (by omega), mul_bt hq.2 hr.2 (by omega), mul_bt hq.1 hr.1 (by omega), mul_bt hq.2 hr.1 (by omega), (hq.2.mul hr.2).mono (by omega), (hq.2.mul hr.1).mono (by omega)⟩
theorem plus_e {m n : Nat} {q r : Rat} (hq : Rb m q) (hr : Rb n r) (h : m + n ≤ 9000) : m_plus [eF q, eF r] = some (eF (q + r)) := by
  obtain ⟨h1, h2, h3, _, _, h4, _⟩ := two_rb hq hr h
  rw [e_plus _ _ rfl]
  unfold b_plus
  simp only [↓ev_V, ↓ev_C, ↓ev_O, ↓ev_U, ↓ev_Nil, ↓ev_Cons, ↓ev_L, ↓ev_If, ↓ev_tV, ↓ev_tTr, ↓ev_tAn, ↓ev_tOr, ↓ev_tNo, ↓ev_NotB, ↓ev_AnB, ↓ev_OrB, ↓ev_Tup, ↓ev_Lst, ↓ev_CP, ↓ev_ML, ↓ev_Sli, ↓ev_oN, ↓ev_oS, ↓ev_Ch, ↓ev_gN, ↓ev_gsNil, ↓ev_gsCons, ↓ev_gT, ↓ev_Seq, ↓ev_Asg, ↓ev_Par, ↓ev_Ret, ↓ev_Drop, ↓ev_sIf, ↓ev_Next, ↓ev_Brk, ↓ev_Cont, ↓ev_RetN, ↓ev_Sub, ↓ev_For, ↓ev_body, ↓ev_iE, ↓ev_iR1, ↓ev_iR2, ↓ev_iZ, ↓ev_iEn, ↓ev_item, ↓ev_Lc, ↓ev_Yes, ↓ev_Par3, ↓ev_As2, ↓ev_As4, ↓ev_CV, ↓ev_Fld, ↓ev_Mk, ↓ev_Mk0, ↓ev_Mt, ↓ev_ForM, ↓ev_bodyM, ↓ev_gTmT, ↓ev_gTmR, ↓ev_AsgM, ↓ev_Star, ↓ev_Dc, ↓ev_iRv, kForM_e, kAsgM_e, kSt1_e, kSt2_e, kSt3_e, seqT, seqRf, popRf, insRf, inE, notInE, kDc_e, kRv_e, revT, revL, vOf_e, kO_e, kO2_e, kU_e, kCons_e, kCons2_e, kL_e, kIf_t, kIf_f, kB_e, kTr_e, kTr2_e, kAn_t, kAn_f, kOr_t, kOr_f, kNo_e, kNotB_e, kAnB_t, kAnB_f, kOrB_t, kOrB_f, kTup_e, kLst_e, kCP_e, kD_e, kML_e, kML2_e, kS1_e, kS2_e, kS3_e, kI_e, kCh1_e, kCh2_e, kCh3_t, kCh3_f, kAsg_e, kNx_e, kRet_e, kDrop_e, kSif_t, kSif_f, kSub1_e, kSub2_e, kSub3_e, kNxM_e, kFor_e, kBody_e, kIE_e, kSrc_e, kR1_e, kR2_e, kR2b_e, kZ1_e, kZ2_e, kEn_e, kMap_e, kMap2_e, kIt1_e, kIt2_t, kIt2_f, kSome_e, kLc_e, kLc2_e, kGc_e, par3_e, kAs2_e, kAs3_e, kAs4_e, kAs5_e, kAs6_e, fnOf2_e, fnV_e, kCV_e, kFld1_e, kFld2_e, kMk_e, kMk2_e, kMt_e, kMt2_e, kMt3_e, gFldE, setFE, metE, insAt_zero, insAt_succ, ob_s, ob_n, then_nx, then_rt, then_bk, then_ct, par2_e, turn_nx, turn_ct, turn_bk, turn_rt, runT_nil, runT_cons, mapT_nil, mapT_cons, finP_nx, finM_rt, finM_nx, addE, subE, negE, cmpE, ixT, truI, truB, at0, at1, at2, at3, List.getElem?_cons_zero, List.getElem?_cons_succ, List.set_cons_zero, List.set_cons_succ, List.length_cons, List.length_nil, Nat.reduceAdd, Nat.reduceLeDiff, if_true, if_false, reduceIte, reduceCtorEq, id_eq, Bool.not_true, Bool.not_false, Bool.false_eq_true, and_self, Int.reduceLE, Int.reduceLT, Int.reduceNeg, decide_true, decide_false, Option.toList_some, Option.toList_none, List.cons_append, List.nil_append, ixRf, tupRf, lenRf, listRf, isLstRf, appRf, revRf, setRf, itemsRf, itemsT, itemsL, zipT, zipRf, allRf, anyRf, sumRf, tupT, slRf, isiE, t2E, lenT, lstAt_zero, lstAt_succ, Option.isSome_some, Nat.reduceLT, Bool.or_true, Bool.or_false, Bool.true_or, Bool.false_or, gIsN, gNotN, D.isNon, wipeD, ix_eF0, ix_eF1, mulE h1, mulE h2, mulE h3, frac_e (Int.mul_ne_zero (den_ne q) (den_ne r)) h4, rat_sum]
  exact finP_rt _ _ (lo_eF 0 _)
theorem minus_e {m n : Nat} {q r : Rat} (hq : Rb m q) (hr : Rb n r) (h : m + n ≤ 9000) : m_minus [eF q, eF r] = some (eF (q - r)) := by
  obtain ⟨h1, h2, h3, _, _, h4, _⟩ := two_rb hq hr h
  rw [e_minus _ _ rfl]
  unfold b_minus
  simp only [↓ev_V, ↓ev_C, ↓ev_O, ↓ev_U, ↓ev_Nil, ↓ev_Cons, ↓ev_L, ↓ev_If, ↓ev_tV, ↓ev_tTr, ↓ev_tAn, ↓ev_tOr, ↓ev_tNo, ↓ev_NotB, ↓ev_AnB, ↓ev_OrB, ↓ev_Tup, ↓ev_Lst, ↓ev_CP, ↓ev_ML, ↓ev_Sli, ↓ev_oN, ↓ev_oS, ↓ev_Ch, ↓ev_gN, ↓ev_gsNil, ↓ev_gsCons, ↓ev_gT, ↓ev_Seq, ↓ev_Asg, ↓ev_Par, ↓ev_Ret, ↓ev_Drop, ↓ev_sIf, ↓ev_Next, ↓ev_Brk, ↓ev_Cont, ↓ev_RetN, ↓ev_Sub, ↓ev_For, ↓ev_body, ↓ev_iE, ↓ev_iR1, ↓ev_iR2, ↓ev_iZ, ↓ev_iEn, ↓ev_item, ↓ev_Lc, ↓ev_Yes, ↓ev_Par3, ↓ev_As2, ↓ev_As4, ↓ev_CV, ↓ev_Fld, ↓ev_Mk, ↓ev_Mk0, ↓ev_Mt, ↓ev_ForM, ↓ev_bodyM, ↓ev_gTmT, ↓ev_gTmR, ↓ev_AsgM, ↓ev_Star, ↓ev_Dc, ↓ev_iRv, kForM_e, kAsgM_e, kSt1_e, kSt2_e, kSt3_e, seqT, seqRf, popRf, insRf, inE, notInE, kDc_e, kRv_e, revT, revL, vOf_e, kO_e, kO2_e, kU_e, kCons_e, kCons2_e, kL_e, kIf_t, kIf_f, kB_e, kTr_e, kTr2_e, kAn_t, kAn_f, kOr_t, kOr_f, kNo_e, kNotB_e, kAnB_t, kAnB_f, kOrB_t, kOrB_f, kTup_e, kLst_e, kCP_e, kD_e, kML_e, kML2_e, kS1_e, kS2_e, kS3_e, kI_e, kCh1_e, kCh2_e, kCh3_t, kCh3_f, kAsg_e, kNx_e, kRet_e, kDrop_e, kSif_t, kSif_f, kSub1_e, kSub2_e, kSub3_e, kNxM_e, kFor_e, kBody_e, kIE_e, kSrc_e, kR1_e, kR2_e, kR2b_e, kZ1_e, kZ2_e, kEn_e, kMap_e, kMap2_e, kIt1_e, kIt2_t, kIt2_f, kSome_e, kLc_e, kLc2_e, kGc_e, par3_e, kAs2_e, kAs3_e, kAs4_e, kAs5_e, kAs6_e, fnOf2_e, fnV_e, kCV_e, kFld1_e, kFld2_e, kMk_e, kMk2_e, kMt_e, kMt2_e, kMt3_e, gFldE, setFE, metE, insAt_zero, insAt_succ, ob_s, ob_n, then_nx, then_rt, then_bk, then_ct, par2_e, turn_nx, turn_ct, turn_bk, turn_rt, runT_nil, runT_cons, mapT_nil, mapT_cons, finP_nx, finM_rt, finM_nx, addE, subE, negE, cmpE, ixT, truI, truB, at0, at1, at2, at3, List.getElem?_cons_zero, List.getElem?_cons_succ, List.set_cons_zero, List.set_cons_succ, List.length_cons, List.length_nil, Nat.reduceAdd, Nat.reduceLeDiff, if_true, if_false, reduceIte, reduceCtorEq, id_eq, Bool.not_true, Bool.not_false, Bool.false_eq_true, and_self, Int.reduceLE, Int.reduceLT, Int.reduceNeg, decide_true, decide_false, Option.toList_some, Option.toList_none, List.cons_append, List.nil_append, ixRf, tupRf, lenRf, listRf, isLstRf, appRf, revRf, setRf, itemsRf, itemsT, itemsL, zipT, zipRf, allRf, anyRf, sumRf, tupT, slRf, isiE, t2E, lenT, lstAt_zero, lstAt_succ, Option.isSome_some, Nat.reduceLT, Bool.or_true, Bool.or_false, Bool.true_or, Bool.false_or, gIsN, gNotN, D.isNon, wipeD, ix_eF0, ix_eF1, mulE h1, mulE h2, mulE h3, frac_e (Int.mul_ne_zero (den_ne q) (den_ne r)) h4, rat_less]
  exact finP_rt _ _ (lo_eF 0 _)
theorem times_e {m n : Nat} {q r : Rat} (hq : Rb m q) (hr : Rb n r) (h : m + n ≤ 9000) : m_times [eF q, eF r] = some (eF (q * r)) := by
  obtain ⟨_, _, h3, h1, _, h4, _⟩ := two_rb hq hr h
  rw [e_times _ _ rfl]
  unfold b_times
  simp only [↓ev_V, ↓ev_C, ↓ev_O, ↓ev_U, ↓ev_Nil, ↓ev_Cons, ↓ev_L, ↓ev_If, ↓ev_tV, ↓ev_tTr, ↓ev_tAn, ↓ev_tOr, ↓ev_tNo, ↓ev_NotB, ↓ev_AnB, ↓ev_OrB, ↓ev_Tup, ↓ev_Lst, ↓ev_CP, ↓ev_ML, ↓ev_Sli, ↓ev_oN, ↓ev_oS, ↓ev_Ch, ↓ev_gN, ↓ev_gsNil, ↓ev_gsCons, ↓ev_gT, ↓ev_Seq, ↓ev_Asg, ↓ev_Par, ↓ev_Ret, ↓ev_Drop, ↓ev_sIf, ↓ev_Next, ↓ev_Brk, ↓ev_Cont, ↓ev_RetN, ↓ev_Sub, ↓ev_For, ↓ev_body, ↓ev_iE, ↓ev_iR1, ↓ev_iR2, ↓ev_iZ, ↓ev_iEn, ↓ev_item, ↓ev_Lc, ↓ev_Yes, ↓ev_Par3, ↓ev_As2, ↓ev_As4, ↓ev_CV, ↓ev_Fld, ↓ev_Mk, ↓ev_Mk0, ↓ev_Mt, ↓ev_ForM, ↓ev_bodyM, ↓ev_gTmT, ↓ev_gTmR, ↓ev_AsgM, ↓ev_Star, ↓ev_Dc, ↓ev_iRv, kForM_e, kAsgM_e, kSt1_e, kSt2_e, kSt3_e, seqT, seqRf, popRf, insRf, inE, notInE, kDc_e, kRv_e, revT, revL, vOf_e, kO_e, kO2_e, kU_e, kCons_e, kCons2_e, kL_e, kIf_t, kIf_f, kB_e, kTr_e, kTr2_e, kAn_t, kAn_f, kOr_t, kOr_f, kNo_e, kNotB_e, kAnB_t, kAnB_f, kOrB_t, kOrB_f, kTup_e, kLst_e, kCP_e, kD_e, kML_e, kML2_e, kS1_e, kS2_e, kS3_e, kI_e, kCh1_e, kCh2_e, kCh3_t, kCh3_f, kAsg_e, kNx_e, kRet_e, kDrop_e, kSif_t, kSif_f, kSub1_e, kSub2_e, kSub3_e, kNxM_e, kFor_e, kBody_e, kIE_e, kSrc_e, kR1_e, kR2_e, kR2b_e, kZ1_e, kZ2_e, kEn_e, kMap_e, kMap2_e, kIt1_e, kIt2_t, kIt2_f, kSome_e, kLc_e, kLc2_e, kGc_e, par3_e, kAs2_e, kAs3_e, kAs4_e, kAs5_e, kAs6_e, fnOf2_e, fnV_e, kCV_e, kFld1_e, kFld2_e, kMk_e, kMk2_e, kMt_e, kMt2_e, kMt3_e, gFldE, setFE, metE, insAt_zero, insAt_succ, ob_s, ob_n, then_nx, then_rt, then_bk, then_ct, par2_e, turn_nx, turn_ct, turn_bk, turn_rt, runT_nil, runT_cons, mapT_nil, mapT_cons, finP_nx, finM_rt, finM_nx, addE, subE, negE, cmpE, ixT, truI, truB, at0, at1, at2, at3, List.getElem?_cons_zero, List.getElem?_cons_succ, List.set_cons_zero, List.set_cons_succ, List.length_cons, List.length_nil, Nat.reduceAdd, Nat.reduceLeDiff, if_true, if_false, reduceIte, reduceCtorEq, id_eq, Bool.not_true, Bool.not_false, Bool.false_eq_true, and_self, Int.reduceLE, Int.reduceLT, Int.reduceNeg, decide_true, decide_false, Option.toList_some, Option.toList_none, List.cons_append, List.nil_append, ixRf, tupRf, lenRf, listRf, isLstRf, appRf, revRf, setRf, itemsRf, itemsT, itemsL, zipT, zipRf, allRf, anyRf, sumRf, tupT, slRf, isiE, t2E, lenT, lstAt_zero, lstAt_succ, Option.isSome_some, Nat.reduceLT, Bool.or_true, Bool.or_false, Bool.true_or, Bool.false_or, gIsN, gNotN, D.isNon, wipeD, ix_eF0, ix_eF1, mulE h1, mulE h3, frac_e (Int.mul_ne_zero (den_ne q) (den_ne r)) h4, rat_prod]
  exact finP_rt _ _ (lo_eF 0 _)

/-! ### equality of data -/
theorem pys_ints : ∀ ns : List Int, D.pys (ns.map D.int) = some (ns.map PyData.int)
  | [] => rfl
  | n :: ns => by simp [D.pys, D.py, pys_ints ns]
theorem lay_ints : ∀ ns : List Int, PyData.canLayAll0 (ns.map PyData.int) = true
  | [] => rfl
  | n :: ns => by simp [PyData.canLayAll0, PyData.canLay0, lay_ints ns]
theorem depth_ints : ∀ ns : List Int, PyData.depthAll (ns.map PyData.int) = 0
  | [] => rfl
  | n :: ns => by simp [PyData.depthAll, PyData.depth, depth_ints ns]
theorem shaped_ints (ns : List Int) : SeqAt.shaped (.list (ns.map .int)) = true := by
  simp [SeqAt.shaped, PyData.canLay0, PyData.depth, lay_ints, depth_ints]
theorem eqR {M : Mem} {i j : Nat} {ds es : List D} {ps qs : List PyData} (hi : M[i]? = some (.lst ds)) (hj : M[j]? = some (.lst es)) (h1 : D.pys ds = some ps) (h2 : D.pys es = some qs) (s1 : SeqAt.shaped (.list ps) = true) (s2 : SeqAt.shaped (.list qs) = true) (neg : Bool) :
    gEqB neg (.rf i) (.rf j) M = some (.bl (if neg then !PyData.eqv (.list ps) (.list qs) else PyData.eqv (.list ps) (.list qs)), M) := by
  simp only [gEqB, toPy, hi, hj, h1, h2, Option.map_some, Option.bind_some]
  rw [if_pos ⟨s1, s2⟩]
theorem eqD {x y : D} {p q : PyData} (hx : x.py = some p) (hy : y.py = some q) (s1 : SeqAt.shaped p = true) (s2 : SeqAt.shaped q = true) (neg : Bool) (M : Mem) : gEqB neg x y M = some (.bl (if neg then !PyData.eqv p q else PyData.eqv p q), M) := by
  have t : ∀ {d : D} {r : PyData}, d.py = some r → toPy M d = some r := fun {d r} h => by
    cases d <;> first | exact h | (cases h)
  simp only [gEqB, t hx, t hy, Option.bind_some]
  rw [if_pos ⟨s1, s2⟩]
theorem eqI (i j : Int) (neg : Bool) (M : Mem) : gEqB neg (.int i) (.int j) M = some (.bl (if neg then !(i == j) else i == j), M) := by
  rw [eqD (x := .int i) (y := .int j) rfl rfl rfl rfl]
  simp [PyData.eqv]
theorem eqIb (i j : Int) (M : Mem) : gEq (.int i) (.int j) M = some (.bl (i == j), M) := eqI i j false M

/-! ### decks: a list of numbers, a place in it, a rest, a mix -/
structure Ds where
  i : Int
  r : Int
  x : Int
structure Dk6 where
  B : Mem
  a : Nat
  s : Nat
  ns : List Int
structure Dk6.Ok (k : Dk6) : Prop where
  ha : k.B[k.a]? = some (.lst (k.ns.map .int))
  hs : k.s < k.B.length
  ne : k.a ≠ k.s
  nn : k.ns ≠ []
  lo : k.B.all (Cell.lo k.B.length) = true
def Dk6.M (k : Dk6) (d : Ds) : Mem := k.B.set k.s (.lst [.rf k.a, .int d.i, .int d.r, .int d.x])
section
variable {k : Dk6} {d : Ds} {rest : Mem}
theorem Dk6.len : (k.M d).length = k.B.length := by simp [Dk6.M]
theorem Dk6.Ok.atS (h : k.Ok) : (k.M d ++ rest)[k.s]? = some (.lst [.rf k.a, .int d.i, .int d.r, .int d.x]) := by
  rw [List.getElem?_append_left (by rw [Dk6.len]; exact h.hs)]
  exact List.getElem?_set_self h.hs
theorem Dk6.Ok.atA (h : k.Ok) : (k.M d ++ rest)[k.a]? = some (.lst (k.ns.map .int)) := by
  have ha := (List.getElem?_eq_some_iff.mp h.ha).1
  rw [List.getElem?_append_left (by rw [Dk6.len]; exact ha)]
  rw [Dk6.M, List.getElem?_set_ne (fun z => h.ne z.symm)]
  exact h.ha
theorem Dk6.Ok.set (h : k.Ok) (i r x : Int) : (k.M d ++ rest).set k.s (.lst [.rf k.a, .int i, .int r, .int x]) = k.M ⟨i, r, x⟩ ++ rest := by
  rw [List.set_append_left _ _ (by rw [Dk6.len]; exact h.hs), Dk6.M, List.set_set]
  rfl
theorem Dk6.Ok.all (h : k.Ok) {n : Nat} (hn : k.B.length ≤ n) : (k.M d).all (Cell.lo n) = true := by
  rw [List.all_eq_true]
  intro c hc
  rw [Dk6.M] at hc
  rcases List.mem_or_eq_of_mem_set hc with hc | rfl
  · exact Cell.lo_le hn (List.all_eq_true.mp h.lo c hc)
  · have ha := (List.getElem?_eq_some_iff.mp h.ha).1
    simp only [Cell.lo, D.los, D.lo, Bool.and_true, decide_eq_true_eq]
    omega
end
/-- the number that is next, by its place -/
def Dk6.num (k : Dk6) (d : Ds) : Int := k.ns.getD (d.i.toNat % k.ns.length) 0
theorem bt_of_lt {m : Nat} {x : Int} (h1 : 0 ≤ x) (h2 : x < 2 ^ m) : Bt m x := by
  unfold Bt
  have : ((x.natAbs : Nat) : Int) < ((2 ^ m : Nat) : Int) := by
    rw [Int.natAbs_of_nonneg h1]
    simpa using h2
  exact Int.ofNat_lt.mp this
theorem Dk6.Ok.hix {k : Dk6} (h : k.Ok) {d : Ds} (h1 : 0 ≤ d.i) : atI (List.map D.int k.ns) (d.i.fmod (k.ns.length : Int)) = some (.int (k.num d)) := by
  have hl : 0 < k.ns.length := List.length_pos_iff.mpr h.nn
  have e : d.i.fmod (k.ns.length : Int) = ((d.i.toNat % k.ns.length : Nat) : Int) := by
    rw [Int.fmod_eq_emod_of_nonneg _ (by omega)]
    have : ((d.i.toNat : Nat) : Int) = d.i := Int.toNat_of_nonneg h1
    rw [Int.natCast_emod, this]
  have hlt : d.i.toNat % k.ns.length < k.ns.length := Nat.mod_lt _ hl
  refine atI_of e ?_
  rw [List.getElem?_map, List.getElem?_eq_getElem hlt, Dk6.num, List.getD_eq_getElem?_getD, List.getElem?_eq_getElem hlt]
  rfl

/-! ### draws of the third family: b more of them at least -/
def Ds.O3 (b : Nat) (d : Ds) : Prop := 0 ≤ d.i ∧ d.i + b ≤ 2 ^ 60 ∧ 0 ≤ d.x ∧ d.x < 2147483587
theorem Ds.O3.mono {a b : Nat} {d : Ds} (h : d.O3 a) (hb : b ≤ a) : d.O3 b := ⟨h.1, by have := h.2.1; omega, h.2.2⟩
def Dk6.mix3 (k : Dk6) (d : Ds) : Int := (d.x * 30013 + (k.num d).fmod 2147483587 + 13 * (d.i + 1) * (d.i + 1)).fmod 2147483587
def Dk6.draw3 (k : Dk6) (n : Int) (d : Ds) : Int × Ds :=
  if 0 < d.r then (d.r.fmod n, ⟨d.i, d.r.fdiv n, d.x⟩)
  else if 1000000000000000000 ≤ k.num d ∧ d.i + 1 ≤ k.ns.length then ((k.num d).fmod n, ⟨d.i + 1, (k.num d).fdiv n, d.x⟩)
  else (((k.mix3 d * 40009).fmod 2147483579 |>.fdiv 32).fmod n, ⟨d.i + 1, d.r, k.mix3 d⟩)
theorem Dk6.draw3_lt (k : Dk6) {n : Int} (hn : 0 < n) (d : Ds) : 0 ≤ (k.draw3 n d).1 ∧ (k.draw3 n d).1 < n := by
  unfold Dk6.draw3
  split
  · exact fmod_pos hn
  · split <;> exact fmod_pos hn
theorem Dk6.draw3_ok (k : Dk6) {n : Int} {b : Nat} {d : Ds} (h : d.O3 (b + 1)) : (k.draw3 n d).2.O3 b := by
  obtain ⟨h1, h0, h2, h3⟩ := h
  have h0 : d.i + ((b : Int) + 1) ≤ 2 ^ 60 := by simpa using h0
  unfold Dk6.draw3
  split
  · exact ⟨h1, by show d.i + (b : Int) ≤ 2 ^ 60; omega, h2, h3⟩
  · split
    · exact ⟨by show 0 ≤ d.i + 1; omega, by show d.i + 1 + (b : Int) ≤ 2 ^ 60; omega, h2, h3⟩
    · have := @fmod_pos (d.x * 30013 + (k.num d).fmod 2147483587 + 13 * (d.i + 1) * (d.i + 1)) 2147483587 (by decide)
      exact ⟨by show 0 ≤ d.i + 1; omega, by show d.i + 1 + (b : Int) ≤ 2 ^ 60; omega, this.1, this.2⟩
theorem Dk6.Ok.pick {k : Dk6} (h : k.Ok) {b : Nat} {d : Ds} (hd : d.O3 (b + 1)) {n : Int} (hn : 0 < n) (hn' : n < 2 ^ 100) (rest : Mem) :
    m__law_pick [.rf k.s, .int n] (k.M d ++ rest) = some (.int (k.draw3 n d).1, k.M (k.draw3 n d).2 ++ rest) := by
  obtain ⟨h1, h0, h2, h3⟩ := hd
  have h0 : d.i + ((b : Int) + 1) ≤ 2 ^ 60 := by simpa using h0
  have nz : n ≠ 0 := by omega
  have nb : Bt 9000 n := (bt_of_lt (m := 100) (by omega) hn').mono (by decide)
  have hL : ((List.map D.int k.ns).length : Int) = (k.ns.length : Int) := by simp
  have lz : (k.ns.length : Int) ≠ 0 := by
    have hl : 0 < k.ns.length := List.length_pos_iff.mpr h.nn
    omega
  have hix := h.hix h1
  have hp : ((10 : Int) ^ (18 : Int).toNat) = 1000000000000000000 := by decide
  have pw := powE (show (0 : Int) ≤ 18 ∧ (18 : Int) ≤ 1000000 ∧ (10 : Int).natAbs < 2 ^ 64 by decide)
  have hm : (k.mix3 d) = (d.x * 30013 + (k.num d).fmod 2147483587 + 13 * (d.i + 1) * (d.i + 1)).fmod 2147483587 := rfl
  have mb := @fmod_pos (d.x * 30013 + (k.num d).fmod 2147483587 + 13 * (d.i + 1) * (d.i + 1)) 2147483587 (by decide)
  rw [← hm] at mb
  have m1 := mulE (mul_bt (bt_of_lt (m := 62) h2 (by omega)) (bt_of_lt (m := 62) (x := 30013) (by decide) (by decide)) (by decide))
  have m2 := mulE (mul_bt (bt_of_lt (m := 62) mb.1 (by omega)) (bt_of_lt (m := 62) (x := 40009) (by decide) (by decide)) (by decide))
  have bi : Bt 62 (d.i + 1) := bt_of_lt (by omega) (by omega)
  have b13 : Bt 62 (13 : Int) := bt_of_lt (by decide) (by decide)
  have m3 := mulE (mul_bt b13 bi (by decide))
  have m4 := mulE (mul_bt (b13.mul bi) bi (by decide))
  have z1 := fun i M => modE (i := i) (j := 2147483587) (by decide) M
  have z2 := fun i M => modE (i := i) (j := 2147483579) (by decide) M
  have z3 := fun i M => fdE (i := i) (j := 32) (by decide) ((bt_of_lt (m := 62) (x := 32) (by decide) (by decide)).mono (by decide)) M
  have x1 : ixN 4 1 = some 1 := rfl
  have x2 : ixN 4 2 = some 2 := rfl
  have x3 : ixN 4 3 = some 3 := rfl
  rw [e__law_pick]
  unfold b__law_pick
  by_cases hr : 0 < d.r
  · rw [show k.draw3 n d = (d.r.fmod n, ⟨d.i, d.r.fdiv n, d.x⟩) from if_pos hr]
    simp only [↓ev_V, ↓ev_C, ↓ev_O, ↓ev_U, ↓ev_Nil, ↓ev_Cons, ↓ev_L, ↓ev_If, ↓ev_tV, ↓ev_tTr, ↓ev_tAn, ↓ev_tOr, ↓ev_tNo, ↓ev_NotB, ↓ev_AnB, ↓ev_OrB, ↓ev_Tup, ↓ev_Lst, ↓ev_CP, ↓ev_ML, ↓ev_Sli, ↓ev_oN, ↓ev_oS, ↓ev_Ch, ↓ev_gN, ↓ev_gsNil, ↓ev_gsCons, ↓ev_gT, ↓ev_Seq, ↓ev_Asg, ↓ev_Par, ↓ev_Ret, ↓ev_Drop, ↓ev_sIf, ↓ev_Next, ↓ev_Brk, ↓ev_Cont, ↓ev_RetN, ↓ev_Sub, ↓ev_For, ↓ev_body, ↓ev_iE, ↓ev_iR1, ↓ev_iR2, ↓ev_iZ, ↓ev_iEn, ↓ev_item, ↓ev_Lc, ↓ev_Yes, ↓ev_Par3, ↓ev_As2, ↓ev_As4, ↓ev_CV, ↓ev_Fld, ↓ev_Mk, ↓ev_Mk0, ↓ev_Mt, ↓ev_ForM, ↓ev_bodyM, ↓ev_gTmT, ↓ev_gTmR, ↓ev_AsgM, ↓ev_Star, ↓ev_Dc, ↓ev_iRv, kForM_e, kAsgM_e, kSt1_e, kSt2_e, kSt3_e, seqT, seqRf, popRf, insRf, inE, notInE, kDc_e, kRv_e, revT, revL, vOf_e, kO_e, kO2_e, kU_e, kCons_e, kCons2_e, kL_e, kIf_t, kIf_f, kB_e, kTr_e, kTr2_e, kAn_t, kAn_f, kOr_t, kOr_f, kNo_e, kNotB_e, kAnB_t, kAnB_f, kOrB_t, kOrB_f, kTup_e, kLst_e, kCP_e, kD_e, kML_e, kML2_e, kS1_e, kS2_e, kS3_e, kI_e, kCh1_e, kCh2_e, kCh3_t, kCh3_f, kAsg_e, kNx_e, kRet_e, kDrop_e, kSif_t, kSif_f, kSub1_e, kSub2_e, kSub3_e, kNxM_e, kFor_e, kBody_e, kIE_e, kSrc_e, kR1_e, kR2_e, kR2b_e, kZ1_e, kZ2_e, kEn_e, kMap_e, kMap2_e, kIt1_e, kIt2_t, kIt2_f, kSome_e, kLc_e, kLc2_e, kGc_e, par3_e, kAs2_e, kAs3_e, kAs4_e, kAs5_e, kAs6_e, fnOf2_e, fnV_e, kCV_e, kFld1_e, kFld2_e, kMk_e, kMk2_e, kMt_e, kMt2_e, kMt3_e, gFldE, setFE, metE, insAt_zero, insAt_succ, ob_s, ob_n, then_nx, then_rt, then_bk, then_ct, par2_e, turn_nx, turn_ct, turn_bk, turn_rt, runT_nil, runT_cons, mapT_nil, mapT_cons, finP_nx, finM_rt, finM_nx, addE, subE, negE, cmpE, ixT, truI, truB, at0, at1, at2, at3, List.getElem?_cons_zero, List.getElem?_cons_succ, List.set_cons_zero, List.set_cons_succ, List.length_cons, List.length_nil, Nat.reduceAdd, Nat.reduceLeDiff, if_true, if_false, reduceIte, reduceCtorEq, id_eq, Bool.not_true, Bool.not_false, Bool.false_eq_true, and_self, Int.reduceLE, Int.reduceLT, Int.reduceNeg, decide_true, decide_false, Option.toList_some, Option.toList_none, List.cons_append, List.nil_append, ixRf, tupRf, lenRf, listRf, isLstRf, appRf, revRf, setRf, itemsRf, itemsT, itemsL, zipT, zipRf, allRf, anyRf, sumRf, tupT, slRf, isiE, t2E, lenT, lstAt_zero, lstAt_succ, Option.isSome_some, Nat.reduceLT, Bool.or_true, Bool.or_false, Bool.true_or, Bool.false_or, gIsN, gNotN, D.isNon, wipeD, lstAt_of h.atS, hr, decide_true, modE nz, fdE nz nb, x2, h.set]
  · by_cases hb : 1000000000000000000 ≤ k.num d
    · by_cases hi : d.i + 1 ≤ (k.ns.length : Int)
      · rw [show k.draw3 n d = ((k.num d).fmod n, ⟨d.i + 1, (k.num d).fdiv n, d.x⟩) by unfold Dk6.draw3; rw [if_neg hr, if_pos ⟨hb, hi⟩]]
        simp only [↓ev_V, ↓ev_C, ↓ev_O, ↓ev_U, ↓ev_Nil, ↓ev_Cons, ↓ev_L, ↓ev_If, ↓ev_tV, ↓ev_tTr, ↓ev_tAn, ↓ev_tOr, ↓ev_tNo, ↓ev_NotB, ↓ev_AnB, ↓ev_OrB, ↓ev_Tup, ↓ev_Lst, ↓ev_CP, ↓ev_ML, ↓ev_Sli, ↓ev_oN, ↓ev_oS, ↓ev_Ch, ↓ev_gN, ↓ev_gsNil, ↓ev_gsCons, ↓ev_gT, ↓ev_Seq, ↓ev_Asg, ↓ev_Par, ↓ev_Ret, ↓ev_Drop, ↓ev_sIf, ↓ev_Next, ↓ev_Brk, ↓ev_Cont, ↓ev_RetN, ↓ev_Sub, ↓ev_For, ↓ev_body, ↓ev_iE, ↓ev_iR1, ↓ev_iR2, ↓ev_iZ, ↓ev_iEn, ↓ev_item, ↓ev_Lc, ↓ev_Yes, ↓ev_Par3, ↓ev_As2, ↓ev_As4, ↓ev_CV, ↓ev_Fld, ↓ev_Mk, ↓ev_Mk0, ↓ev_Mt, ↓ev_ForM, ↓ev_bodyM, ↓ev_gTmT, ↓ev_gTmR, ↓ev_AsgM, ↓ev_Star, ↓ev_Dc, ↓ev_iRv, kForM_e, kAsgM_e, kSt1_e, kSt2_e, kSt3_e, seqT, seqRf, popRf, insRf, inE, notInE, kDc_e, kRv_e, revT, revL, vOf_e, kO_e, kO2_e, kU_e, kCons_e, kCons2_e, kL_e, kIf_t, kIf_f, kB_e, kTr_e, kTr2_e, kAn_t, kAn_f, kOr_t, kOr_f, kNo_e, kNotB_e, kAnB_t, kAnB_f, kOrB_t, kOrB_f, kTup_e, kLst_e, kCP_e, kD_e, kML_e, kML2_e, kS1_e, kS2_e, kS3_e, kI_e, kCh1_e, kCh2_e, kCh3_t, kCh3_f, kAsg_e, kNx_e, kRet_e, kDrop_e, kSif_t, kSif_f, kSub1_e, kSub2_e, kSub3_e, kNxM_e, kFor_e, kBody_e, kIE_e, kSrc_e, kR1_e, kR2_e, kR2b_e, kZ1_e, kZ2_e, kEn_e, kMap_e, kMap2_e, kIt1_e, kIt2_t, kIt2_f, kSome_e, kLc_e, kLc2_e, kGc_e, par3_e, kAs2_e, kAs3_e, kAs4_e, kAs5_e, kAs6_e, fnOf2_e, fnV_e, kCV_e, kFld1_e, kFld2_e, kMk_e, kMk2_e, kMt_e, kMt2_e, kMt3_e, gFldE, setFE, metE, insAt_zero, insAt_succ, ob_s, ob_n, then_nx, then_rt, then_bk, then_ct, par2_e, turn_nx, turn_ct, turn_bk, turn_rt, runT_nil, runT_cons, mapT_nil, mapT_cons, finP_nx, finM_rt, finM_nx, addE, subE, negE, cmpE, ixT, truI, truB, at0, at1, at2, at3, List.getElem?_cons_zero, List.getElem?_cons_succ, List.set_cons_zero, List.set_cons_succ, List.length_cons, List.length_nil, Nat.reduceAdd, Nat.reduceLeDiff, if_true, if_false, reduceIte, reduceCtorEq, id_eq, Bool.not_true, Bool.not_false, Bool.false_eq_true, and_self, Int.reduceLE, Int.reduceLT, Int.reduceNeg, decide_true, decide_false, Option.toList_some, Option.toList_none, List.cons_append, List.nil_append, ixRf, tupRf, lenRf, listRf, isLstRf, appRf, revRf, setRf, itemsRf, itemsT, itemsL, zipT, zipRf, allRf, anyRf, sumRf, tupT, slRf, isiE, t2E, lenT, lstAt_zero, lstAt_succ, Option.isSome_some, Nat.reduceLT, Bool.or_true, Bool.or_false, Bool.true_or, Bool.false_or, gIsN, gNotN, D.isNon, wipeD, lstAt_of h.atS, hr, decide_false, lstAt_of h.atA, hL, modE lz, hix, x1, x2, h.set, pw, hp, hb, hi, decide_true, modE nz, fdE nz nb]
      · rw [show k.draw3 n d = (((k.mix3 d * 40009).fmod 2147483579 |>.fdiv 32).fmod n, ⟨d.i + 1, d.r, k.mix3 d⟩) by unfold Dk6.draw3; rw [if_neg hr, if_neg fun z => hi z.2]]
        simp only [↓ev_V, ↓ev_C, ↓ev_O, ↓ev_U, ↓ev_Nil, ↓ev_Cons, ↓ev_L, ↓ev_If, ↓ev_tV, ↓ev_tTr, ↓ev_tAn, ↓ev_tOr, ↓ev_tNo, ↓ev_NotB, ↓ev_AnB, ↓ev_OrB, ↓ev_Tup, ↓ev_Lst, ↓ev_CP, ↓ev_ML, ↓ev_Sli, ↓ev_oN, ↓ev_oS, ↓ev_Ch, ↓ev_gN, ↓ev_gsNil, ↓ev_gsCons, ↓ev_gT, ↓ev_Seq, ↓ev_Asg, ↓ev_Par, ↓ev_Ret, ↓ev_Drop, ↓ev_sIf, ↓ev_Next, ↓ev_Brk, ↓ev_Cont, ↓ev_RetN, ↓ev_Sub, ↓ev_For, ↓ev_body, ↓ev_iE, ↓ev_iR1, ↓ev_iR2, ↓ev_iZ, ↓ev_iEn, ↓ev_item, ↓ev_Lc, ↓ev_Yes, ↓ev_Par3, ↓ev_As2, ↓ev_As4, ↓ev_CV, ↓ev_Fld, ↓ev_Mk, ↓ev_Mk0, ↓ev_Mt, ↓ev_ForM, ↓ev_bodyM, ↓ev_gTmT, ↓ev_gTmR, ↓ev_AsgM, ↓ev_Star, ↓ev_Dc, ↓ev_iRv, kForM_e, kAsgM_e, kSt1_e, kSt2_e, kSt3_e, seqT, seqRf, popRf, insRf, inE, notInE, kDc_e, kRv_e, revT, revL, vOf_e, kO_e, kO2_e, kU_e, kCons_e, kCons2_e, kL_e, kIf_t, kIf_f, kB_e, kTr_e, kTr2_e, kAn_t, kAn_f, kOr_t, kOr_f, kNo_e, kNotB_e, kAnB_t, kAnB_f, kOrB_t, kOrB_f, kTup_e, kLst_e, kCP_e, kD_e, kML_e, kML2_e, kS1_e, kS2_e, kS3_e, kI_e, kCh1_e, kCh2_e, kCh3_t, kCh3_f, kAsg_e, kNx_e, kRet_e, kDrop_e, kSif_t, kSif_f, kSub1_e, kSub2_e, kSub3_e, kNxM_e, kFor_e, kBody_e, kIE_e, kSrc_e, kR1_e, kR2_e, kR2b_e, kZ1_e, kZ2_e, kEn_e, kMap_e, kMap2_e, kIt1_e, kIt2_t, kIt2_f, kSome_e, kLc_e, kLc2_e, kGc_e, par3_e, kAs2_e, kAs3_e, kAs4_e, kAs5_e, kAs6_e, fnOf2_e, fnV_e, kCV_e, kFld1_e, kFld2_e, kMk_e, kMk2_e, kMt_e, kMt2_e, kMt3_e, gFldE, setFE, metE, insAt_zero, insAt_succ, ob_s, ob_n, then_nx, then_rt, then_bk, then_ct, par2_e, turn_nx, turn_ct, turn_bk, turn_rt, runT_nil, runT_cons, mapT_nil, mapT_cons, finP_nx, finM_rt, finM_nx, addE, subE, negE, cmpE, ixT, truI, truB, at0, at1, at2, at3, List.getElem?_cons_zero, List.getElem?_cons_succ, List.set_cons_zero, List.set_cons_succ, List.length_cons, List.length_nil, Nat.reduceAdd, Nat.reduceLeDiff, if_true, if_false, reduceIte, reduceCtorEq, id_eq, Bool.not_true, Bool.not_false, Bool.false_eq_true, and_self, Int.reduceLE, Int.reduceLT, Int.reduceNeg, decide_true, decide_false, Option.toList_some, Option.toList_none, List.cons_append, List.nil_append, ixRf, tupRf, lenRf, listRf, isLstRf, appRf, revRf, setRf, itemsRf, itemsT, itemsL, zipT, zipRf, allRf, anyRf, sumRf, tupT, slRf, isiE, t2E, lenT, lstAt_zero, lstAt_succ, Option.isSome_some, Nat.reduceLT, Bool.or_true, Bool.or_false, Bool.true_or, Bool.false_or, gIsN, gNotN, D.isNon, wipeD, lstAt_of h.atS, hr, decide_false, lstAt_of h.atA, hL, modE lz, hix, x1, x3, h.set, pw, hp, hb, hi, decide_true, z1, z2, z3, m1, m3, m4, ← hm, m2, modE nz]
    · rw [show k.draw3 n d = (((k.mix3 d * 40009).fmod 2147483579 |>.fdiv 32).fmod n, ⟨d.i + 1, d.r, k.mix3 d⟩) by unfold Dk6.draw3; rw [if_neg hr, if_neg fun z => hb z.1]]
      simp only [↓ev_V, ↓ev_C, ↓ev_O, ↓ev_U, ↓ev_Nil, ↓ev_Cons, ↓ev_L, ↓ev_If, ↓ev_tV, ↓ev_tTr, ↓ev_tAn, ↓ev_tOr, ↓ev_tNo, ↓ev_NotB, ↓ev_AnB, ↓ev_OrB, ↓ev_Tup, ↓ev_Lst, ↓ev_CP, ↓ev_ML, ↓ev_Sli, ↓ev_oN, ↓ev_oS, ↓ev_Ch, ↓ev_gN, ↓ev_gsNil, ↓ev_gsCons, ↓ev_gT, ↓ev_Seq, ↓ev_Asg, ↓ev_Par, ↓ev_Ret, ↓ev_Drop, ↓ev_sIf, ↓ev_Next, ↓ev_Brk, ↓ev_Cont, ↓ev_RetN, ↓ev_Sub, ↓ev_For, ↓ev_body, ↓ev_iE, ↓ev_iR1, ↓ev_iR2, ↓ev_iZ, ↓ev_iEn, ↓ev_item, ↓ev_Lc, ↓ev_Yes, ↓ev_Par3, ↓ev_As2, ↓ev_As4, ↓ev_CV, ↓ev_Fld, ↓ev_Mk, ↓ev_Mk0, ↓ev_Mt, ↓ev_ForM, ↓ev_bodyM, ↓ev_gTmT, ↓ev_gTmR, ↓ev_AsgM, ↓ev_Star, ↓ev_Dc, ↓ev_iRv, kForM_e, kAsgM_e, kSt1_e, kSt2_e, kSt3_e, seqT, seqRf, popRf, insRf, inE, notInE, kDc_e, kRv_e, revT, revL, vOf_e, kO_e, kO2_e, kU_e, kCons_e, kCons2_e, kL_e, kIf_t, kIf_f, kB_e, kTr_e, kTr2_e, kAn_t, kAn_f, kOr_t, kOr_f, kNo_e, kNotB_e, kAnB_t, kAnB_f, kOrB_t, kOrB_f, kTup_e, kLst_e, kCP_e, kD_e, kML_e, kML2_e, kS1_e, kS2_e, kS3_e, kI_e, kCh1_e, kCh2_e, kCh3_t, kCh3_f, kAsg_e, kNx_e, kRet_e, kDrop_e, kSif_t, kSif_f, kSub1_e, kSub2_e, kSub3_e, kNxM_e, kFor_e, kBody_e, kIE_e, kSrc_e, kR1_e, kR2_e, kR2b_e, kZ1_e, kZ2_e, kEn_e, kMap_e, kMap2_e, kIt1_e, kIt2_t, kIt2_f, kSome_e, kLc_e, kLc2_e, kGc_e, par3_e, kAs2_e, kAs3_e, kAs4_e, kAs5_e, kAs6_e, fnOf2_e, fnV_e, kCV_e, kFld1_e, kFld2_e, kMk_e, kMk2_e, kMt_e, kMt2_e, kMt3_e, gFldE, setFE, metE, insAt_zero, insAt_succ, ob_s, ob_n, then_nx, then_rt, then_bk, then_ct, par2_e, turn_nx, turn_ct, turn_bk, turn_rt, runT_nil, runT_cons, mapT_nil, mapT_cons, finP_nx, finM_rt, finM_nx, addE, subE, negE, cmpE, ixT, truI, truB, at0, at1, at2, at3, List.getElem?_cons_zero, List.getElem?_cons_succ, List.set_cons_zero, List.set_cons_succ, List.length_cons, List.length_nil, Nat.reduceAdd, Nat.reduceLeDiff, if_true, if_false, reduceIte, reduceCtorEq, id_eq, Bool.not_true, Bool.not_false, Bool.false_eq_true, and_self, Int.reduceLE, Int.reduceLT, Int.reduceNeg, decide_true, decide_false, Option.toList_some, Option.toList_none, List.cons_append, List.nil_append, ixRf, tupRf, lenRf, listRf, isLstRf, appRf, revRf, setRf, itemsRf, itemsT, itemsL, zipT, zipRf, allRf, anyRf, sumRf, tupT, slRf, isiE, t2E, lenT, lstAt_zero, lstAt_succ, Option.isSome_some, Nat.reduceLT, Bool.or_true, Bool.or_false, Bool.true_or, Bool.false_or, gIsN, gNotN, D.isNon, wipeD, lstAt_of h.atS, hr, decide_false, lstAt_of h.atA, hL, modE lz, hix, x1, x3, h.set, pw, hp, hb, z1, z2, z3, m1, m3, m4, ← hm, m2, modE nz]
theorem Dk6.Ok.pk {k : Dk6} (h : k.Ok) {b : Nat} {d : Ds} (hd : d.O3 (b + 1)) {n : Int} (hn : 0 < n) (hn' : n < 2 ^ 100) : ∃ v d', d'.O3 b ∧ 0 ≤ v ∧ v < n ∧ ∀ rest, m__law_pick [.rf k.s, .int n] (k.M d ++ rest) = some (.int v, k.M d' ++ rest) :=
  ⟨_, _, k.draw3_ok hd, (k.draw3_lt hn d).1, (k.draw3_lt hn d).2, fun rest => h.pick hd hn hn' rest⟩
/-- the deck of a script -/
def d30 : Ds := ⟨0, 0, 5⟩
theorem d30_ok : d30.O3 1000000 := by
  unfold Ds.O3 d30
  decide
def cut63 (ns : List Int) : List Int := (ns.drop (HT.sIx ns.length 0 none)).take (HT.sIx ns.length ns.length (some 63) - HT.sIx ns.length 0 none)
theorem cut63_e (ns : List Int) : cutD (ns.map D.int) none (some 63) = (cut63 ns).map D.int := by
  simp [cutD, cut63]
def dk3 (ns : List Int) : Dk6 := ⟨[.lst ((cut63 ns).map D.int), .lst ((cut63 ns).map D.int), .lst [.int 11], .lst ((cut63 ns ++ [11]).map D.int), .lst []], 3, 4, cut63 ns ++ [11]⟩
theorem dk3_ok (ns : List Int) : (dk3 ns).Ok := ⟨rfl, by show 4 < 5; decide, by show 3 ≠ 4; decide, by show cut63 ns ++ [11] ≠ []; simp, by
  show (List.all [_, _, _, _, _] _) = true
  simp only [List.all_cons, List.all_nil, Cell.lo, los_ints, Bool.and_true, Bool.true_and]
  rfl⟩
theorem open_e (ns : List Int) (hn : ns.length ≤ 63) : m__law_open [.rol (ns.map D.int)] [] = some (.rf (dk3 ns).s, (dk3 ns).M d30) := by
  rw [e__law_open]
  unfold b__law_open
  have c1 : gSl (.rol (ns.map D.int)) none (some 63) [] = some (.rf 0, [.lst ((cut63 ns).map D.int)]) := by
    simp only [gSl, cut63_e]
    rfl
  have hl : (cut63 ns).length ≤ 63 := by
    unfold cut63
    rw [List.length_take, List.length_drop]
    omega
  have c2 : gAdd (.rf 1) (.rf 2) [.lst ((cut63 ns).map D.int), .lst ((cut63 ns).map D.int), .lst [.int 11]] = some (.rf 3, [.lst ((cut63 ns).map D.int), .lst ((cut63 ns).map D.int), .lst [.int 11], .lst ((cut63 ns).map D.int ++ [.int 11])]) := by
    show (if ((cut63 ns).map D.int).length + [D.int 11].length ≤ 100000 then _ else _) = _
    rw [if_pos (by simp; omega)]
    rfl
  simp only [↓ev_V, ↓ev_C, ↓ev_O, ↓ev_U, ↓ev_Nil, ↓ev_Cons, ↓ev_L, ↓ev_If, ↓ev_tV, ↓ev_tTr, ↓ev_tAn, ↓ev_tOr, ↓ev_tNo, ↓ev_NotB, ↓ev_AnB, ↓ev_OrB, ↓ev_Tup, ↓ev_Lst, ↓ev_CP, ↓ev_ML, ↓ev_Sli, ↓ev_oN, ↓ev_oS, ↓ev_Ch, ↓ev_gN, ↓ev_gsNil, ↓ev_gsCons, ↓ev_gT, ↓ev_Seq, ↓ev_Asg, ↓ev_Par, ↓ev_Ret, ↓ev_Drop, ↓ev_sIf, ↓ev_Next, ↓ev_Brk, ↓ev_Cont, ↓ev_RetN, ↓ev_Sub, ↓ev_For, ↓ev_body, ↓ev_iE, ↓ev_iR1, ↓ev_iR2, ↓ev_iZ, ↓ev_iEn, ↓ev_item, ↓ev_Lc, ↓ev_Yes, ↓ev_Par3, ↓ev_As2, ↓ev_As4, ↓ev_CV, ↓ev_Fld, ↓ev_Mk, ↓ev_Mk0, ↓ev_Mt, ↓ev_ForM, ↓ev_bodyM, ↓ev_gTmT, ↓ev_gTmR, ↓ev_AsgM, ↓ev_Star, ↓ev_Dc, ↓ev_iRv, kForM_e, kAsgM_e, kSt1_e, kSt2_e, kSt3_e, seqT, seqRf, popRf, insRf, inE, notInE, kDc_e, kRv_e, revT, revL, vOf_e, kO_e, kO2_e, kU_e, kCons_e, kCons2_e, kL_e, kIf_t, kIf_f, kB_e, kTr_e, kTr2_e, kAn_t, kAn_f, kOr_t, kOr_f, kNo_e, kNotB_e, kAnB_t, kAnB_f, kOrB_t, kOrB_f, kTup_e, kLst_e, kCP_e, kD_e, kML_e, kML2_e, kS1_e, kS2_e, kS3_e, kI_e, kCh1_e, kCh2_e, kCh3_t, kCh3_f, kAsg_e, kNx_e, kRet_e, kDrop_e, kSif_t, kSif_f, kSub1_e, kSub2_e, kSub3_e, kNxM_e, kFor_e, kBody_e, kIE_e, kSrc_e, kR1_e, kR2_e, kR2b_e, kZ1_e, kZ2_e, kEn_e, kMap_e, kMap2_e, kIt1_e, kIt2_t, kIt2_f, kSome_e, kLc_e, kLc2_e, kGc_e, par3_e, kAs2_e, kAs3_e, kAs4_e, kAs5_e, kAs6_e, fnOf2_e, fnV_e, kCV_e, kFld1_e, kFld2_e, kMk_e, kMk2_e, kMt_e, kMt2_e, kMt3_e, gFldE, setFE, metE, insAt_zero, insAt_succ, ob_s, ob_n, then_nx, then_rt, then_bk, then_ct, par2_e, turn_nx, turn_ct, turn_bk, turn_rt, runT_nil, runT_cons, mapT_nil, mapT_cons, finP_nx, finM_rt, finM_nx, addE, subE, negE, cmpE, ixT, truI, truB, at0, at1, at2, at3, List.getElem?_cons_zero, List.getElem?_cons_succ, List.set_cons_zero, List.set_cons_succ, List.length_cons, List.length_nil, Nat.reduceAdd, Nat.reduceLeDiff, if_true, if_false, reduceIte, reduceCtorEq, id_eq, Bool.not_true, Bool.not_false, Bool.false_eq_true, and_self, Int.reduceLE, Int.reduceLT, Int.reduceNeg, decide_true, decide_false, Option.toList_some, Option.toList_none, List.cons_append, List.nil_append, ixRf, tupRf, lenRf, listRf, isLstRf, appRf, revRf, setRf, itemsRf, itemsT, itemsL, zipT, zipRf, allRf, anyRf, sumRf, tupT, slRf, isiE, t2E, lenT, lstAt_zero, lstAt_succ, Option.isSome_some, Nat.reduceLT, Bool.or_true, Bool.or_false, Bool.true_or, Bool.false_or, gIsN, gNotN, D.isNon, wipeD, c1, c2]
  show some (_, _) = some (_, _)
  simp [dk3, Dk6.M, d30]

/-! ### points -/
structure P3 where
  x : Rat
  y : Rat
  z : Rat
def eP (p : P3) : D := .tup [eF p.x, eF p.y, eF p.z]
def P3.B (n : Nat) (p : P3) : Prop := Rb n p.x ∧ Rb n p.y ∧ Rb n p.z
theorem lo_eP (n : Nat) (p : P3) : D.lo n (eP p) = true := rfl
theorem ix_eP0 (p : P3) (M : Mem) : gIx (eP p) (.int 0) M = some (eF p.x, M) := rfl
theorem ix_eP1 (p : P3) (M : Mem) : gIx (eP p) (.int 1) M = some (eF p.y, M) := rfl
theorem ix_eP2 (p : P3) (M : Mem) : gIx (eP p) (.int 2) M = some (eF p.z, M) := rfl
def P3.add (p q : P3) : P3 := ⟨p.x + q.x, p.y + q.y, p.z + q.z⟩
def P3.sub (p q : P3) : P3 := ⟨p.x - q.x, p.y - q.y, p.z - q.z⟩
def P3.scale (p : P3) (k : Rat) : P3 := ⟨p.x * k, p.y * k, p.z * k⟩
theorem P3.B.mono {m n : Nat} {p : P3} (h : p.B m) (hn : m ≤ n) : p.B n := ⟨h.1.mono hn, h.2.1.mono hn, h.2.2.mono hn⟩
theorem P3.B.add {m n : Nat} {p q : P3} (h : p.B m) (k : q.B n) : (p.add q).B (m + n + 1) := ⟨h.1.add k.1, h.2.1.add k.2.1, h.2.2.add k.2.2⟩
theorem P3.B.sub {m n : Nat} {p q : P3} (h : p.B m) (k : q.B n) : (p.sub q).B (m + n + 1) := ⟨h.1.sub k.1, h.2.1.sub k.2.1, h.2.2.sub k.2.2⟩
theorem P3.B.scale {m n : Nat} {p : P3} {q : Rat} (h : p.B m) (k : Rb n q) : (p.scale q).B (m + n) := ⟨h.1.mul k, h.2.1.mul k, h.2.2.mul k⟩
theorem tup3 (p : P3) : D.tup [eF p.x, eF p.y, eF p.z] = eP p := rfl
theorem le3 : 0 + 1 + 1 + 1 ≤ 100000 := by decide

theorem together_e {m n : Nat} {p q : P3} (hp : p.B m) (hq : q.B n) (h : m + n ≤ 9000) : m_together [eP p, eP q] = some (eP (p.add q)) := by
  rw [e_together _ _ rfl]
  unfold b_together
  simp only [↓ev_V, ↓ev_C, ↓ev_O, ↓ev_U, ↓ev_Nil, ↓ev_Cons, ↓ev_L, ↓ev_If, ↓ev_tV, ↓ev_tTr, ↓ev_tAn, ↓ev_tOr, ↓ev_tNo, ↓ev_NotB, ↓ev_AnB, ↓ev_OrB, ↓ev_Tup, ↓ev_Lst, ↓ev_CP, ↓ev_ML, ↓ev_Sli, ↓ev_oN, ↓ev_oS, ↓ev_Ch, ↓ev_gN, ↓ev_gsNil, ↓ev_gsCons, ↓ev_gT, ↓ev_Seq, ↓ev_Asg, ↓ev_Par, ↓ev_Ret, ↓ev_Drop, ↓ev_sIf, ↓ev_Next, ↓ev_Brk, ↓ev_Cont, ↓ev_RetN, ↓ev_Sub, ↓ev_For, ↓ev_body, ↓ev_iE, ↓ev_iR1, ↓ev_iR2, ↓ev_iZ, ↓ev_iEn, ↓ev_item, ↓ev_Lc, ↓ev_Yes, ↓ev_Par3, ↓ev_As2, ↓ev_As4, ↓ev_CV, ↓ev_Fld, ↓ev_Mk, ↓ev_Mk0, ↓ev_Mt, ↓ev_ForM, ↓ev_bodyM, ↓ev_gTmT, ↓ev_gTmR, ↓ev_AsgM, ↓ev_Star, ↓ev_Dc, ↓ev_iRv, kForM_e, kAsgM_e, kSt1_e, kSt2_e, kSt3_e, seqT, seqRf, popRf, insRf, inE, notInE, kDc_e, kRv_e, revT, revL, vOf_e, kO_e, kO2_e, kU_e, kCons_e, kCons2_e, kL_e, kIf_t, kIf_f, kB_e, kTr_e, kTr2_e, kAn_t, kAn_f, kOr_t, kOr_f, kNo_e, kNotB_e, kAnB_t, kAnB_f, kOrB_t, kOrB_f, kTup_e, kLst_e, kCP_e, kD_e, kML_e, kML2_e, kS1_e, kS2_e, kS3_e, kI_e, kCh1_e, kCh2_e, kCh3_t, kCh3_f, kAsg_e, kNx_e, kRet_e, kDrop_e, kSif_t, kSif_f, kSub1_e, kSub2_e, kSub3_e, kNxM_e, kFor_e, kBody_e, kIE_e, kSrc_e, kR1_e, kR2_e, kR2b_e, kZ1_e, kZ2_e, kEn_e, kMap_e, kMap2_e, kIt1_e, kIt2_t, kIt2_f, kSome_e, kLc_e, kLc2_e, kGc_e, par3_e, kAs2_e, kAs3_e, kAs4_e, kAs5_e, kAs6_e, fnOf2_e, fnV_e, kCV_e, kFld1_e, kFld2_e, kMk_e, kMk2_e, kMt_e, kMt2_e, kMt3_e, gFldE, setFE, metE, insAt_zero, insAt_succ, ob_s, ob_n, then_nx, then_rt, then_bk, then_ct, par2_e, turn_nx, turn_ct, turn_bk, turn_rt, runT_nil, runT_cons, mapT_nil, mapT_cons, finP_nx, finM_rt, finM_nx, addE, subE, negE, cmpE, ixT, truI, truB, at0, at1, at2, at3, List.getElem?_cons_zero, List.getElem?_cons_succ, List.set_cons_zero, List.set_cons_succ, List.length_cons, List.length_nil, Nat.reduceAdd, Nat.reduceLeDiff, if_true, if_false, reduceIte, reduceCtorEq, id_eq, Bool.not_true, Bool.not_false, Bool.false_eq_true, and_self, Int.reduceLE, Int.reduceLT, Int.reduceNeg, decide_true, decide_false, Option.toList_some, Option.toList_none, List.cons_append, List.nil_append, ixRf, tupRf, lenRf, listRf, isLstRf, appRf, revRf, setRf, itemsRf, itemsT, itemsL, zipT, zipRf, allRf, anyRf, sumRf, tupT, slRf, isiE, t2E, lenT, lstAt_zero, lstAt_succ, Option.isSome_some, Nat.reduceLT, Bool.or_true, Bool.or_false, Bool.true_or, Bool.false_or, gIsN, gNotN, D.isNon, wipeD, ix_eP0, ix_eP1, ix_eP2, plus_e hp.1 hq.1 h, plus_e hp.2.1 hq.2.1 h, plus_e hp.2.2 hq.2.2 h]
  exact finP_rt _ _ (lo_eP 0 (p.add q))
theorem way_between_e {m n : Nat} {p q : P3} (hp : p.B m) (hq : q.B n) (h : m + n ≤ 9000) : m_way_between [eP p, eP q] = some (eP (q.sub p)) := by
  rw [e_way_between _ _ rfl]
  unfold b_way_between
  have h : n + m ≤ 9000 := by omega
  simp only [↓ev_V, ↓ev_C, ↓ev_O, ↓ev_U, ↓ev_Nil, ↓ev_Cons, ↓ev_L, ↓ev_If, ↓ev_tV, ↓ev_tTr, ↓ev_tAn, ↓ev_tOr, ↓ev_tNo, ↓ev_NotB, ↓ev_AnB, ↓ev_OrB, ↓ev_Tup, ↓ev_Lst, ↓ev_CP, ↓ev_ML, ↓ev_Sli, ↓ev_oN, ↓ev_oS, ↓ev_Ch, ↓ev_gN, ↓ev_gsNil, ↓ev_gsCons, ↓ev_gT, ↓ev_Seq, ↓ev_Asg, ↓ev_Par, ↓ev_Ret, ↓ev_Drop, ↓ev_sIf, ↓ev_Next, ↓ev_Brk, ↓ev_Cont, ↓ev_RetN, ↓ev_Sub, ↓ev_For, ↓ev_body, ↓ev_iE, ↓ev_iR1, ↓ev_iR2, ↓ev_iZ, ↓ev_iEn, ↓ev_item, ↓ev_Lc, ↓ev_Yes, ↓ev_Par3, ↓ev_As2, ↓ev_As4, ↓ev_CV, ↓ev_Fld, ↓ev_Mk, ↓ev_Mk0, ↓ev_Mt, ↓ev_ForM, ↓ev_bodyM, ↓ev_gTmT, ↓ev_gTmR, ↓ev_AsgM, ↓ev_Star, ↓ev_Dc, ↓ev_iRv, kForM_e, kAsgM_e, kSt1_e, kSt2_e, kSt3_e, seqT, seqRf, popRf, insRf, inE, notInE, kDc_e, kRv_e, revT, revL, vOf_e, kO_e, kO2_e, kU_e, kCons_e, kCons2_e, kL_e, kIf_t, kIf_f, kB_e, kTr_e, kTr2_e, kAn_t, kAn_f, kOr_t, kOr_f, kNo_e, kNotB_e, kAnB_t, kAnB_f, kOrB_t, kOrB_f, kTup_e, kLst_e, kCP_e, kD_e, kML_e, kML2_e, kS1_e, kS2_e, kS3_e, kI_e, kCh1_e, kCh2_e, kCh3_t, kCh3_f, kAsg_e, kNx_e, kRet_e, kDrop_e, kSif_t, kSif_f, kSub1_e, kSub2_e, kSub3_e, kNxM_e, kFor_e, kBody_e, kIE_e, kSrc_e, kR1_e, kR2_e, kR2b_e, kZ1_e, kZ2_e, kEn_e, kMap_e, kMap2_e, kIt1_e, kIt2_t, kIt2_f, kSome_e, kLc_e, kLc2_e, kGc_e, par3_e, kAs2_e, kAs3_e, kAs4_e, kAs5_e, kAs6_e, fnOf2_e, fnV_e, kCV_e, kFld1_e, kFld2_e, kMk_e, kMk2_e, kMt_e, kMt2_e, kMt3_e, gFldE, setFE, metE, insAt_zero, insAt_succ, ob_s, ob_n, then_nx, then_rt, then_bk, then_ct, par2_e, turn_nx, turn_ct, turn_bk, turn_rt, runT_nil, runT_cons, mapT_nil, mapT_cons, finP_nx, finM_rt, finM_nx, addE, subE, negE, cmpE, ixT, truI, truB, at0, at1, at2, at3, List.getElem?_cons_zero, List.getElem?_cons_succ, List.set_cons_zero, List.set_cons_succ, List.length_cons, List.length_nil, Nat.reduceAdd, Nat.reduceLeDiff, if_true, if_false, reduceIte, reduceCtorEq, id_eq, Bool.not_true, Bool.not_false, Bool.false_eq_true, and_self, Int.reduceLE, Int.reduceLT, Int.reduceNeg, decide_true, decide_false, Option.toList_some, Option.toList_none, List.cons_append, List.nil_append, ixRf, tupRf, lenRf, listRf, isLstRf, appRf, revRf, setRf, itemsRf, itemsT, itemsL, zipT, zipRf, allRf, anyRf, sumRf, tupT, slRf, isiE, t2E, lenT, lstAt_zero, lstAt_succ, Option.isSome_some, Nat.reduceLT, Bool.or_true, Bool.or_false, Bool.true_or, Bool.false_or, gIsN, gNotN, D.isNon, wipeD, ix_eP0, ix_eP1, ix_eP2, minus_e hq.1 hp.1 h, minus_e hq.2.1 hp.2.1 h, minus_e hq.2.2 hp.2.2 h]
  exact finP_rt _ _ (lo_eP 0 (q.sub p))

/-! ### the law's own fractions, third family -/
theorem lr_loop (x0 x1 : Option D) (M : Mem) (a b : Int) : ∀ (n : Nat) (x y : Int), y.natAbs < n → HInv a b x y → wl (tV (fO gNe (fV 3) (fC (.int 0)))) (sPar 2 3 (fCons (fV 3) (fCons (fO gMod (fV 2) (fV 3)) fNil))) n [x0, x1, some (.int x), some (.int y)] M = some (.nx [x0, x1, some (.int (Int.gcd a b : Int)), some (.int 0)], M)
  | 0, _, _, h, _ => absurd h (by omega)
  | n + 1, x, y, h, g => by
    unfold wl
    by_cases hy : 0 < y
    · obtain ⟨g', hm⟩ := g.next hy
      have ih := lr_loop x0 x1 M a b n y (x.fmod y) (by omega) g'
      have hb : (y == 0) = false := by
        rw [beq_eq_false_iff_ne]
        omega
      have e1 : tV (fO gNe (fV 3) (fC (.int 0))) [x0, x1, some (.int x), some (.int y)] M = some (true, M) := by
        simp only [↓ev_V, ↓ev_C, ↓ev_O, ↓ev_U, ↓ev_Nil, ↓ev_Cons, ↓ev_L, ↓ev_If, ↓ev_tV, ↓ev_tTr, ↓ev_tAn, ↓ev_tOr, ↓ev_tNo, ↓ev_NotB, ↓ev_AnB, ↓ev_OrB, ↓ev_Tup, ↓ev_Lst, ↓ev_CP, ↓ev_ML, ↓ev_Sli, ↓ev_oN, ↓ev_oS, ↓ev_Ch, ↓ev_gN, ↓ev_gsNil, ↓ev_gsCons, ↓ev_gT, ↓ev_Seq, ↓ev_Asg, ↓ev_Par, ↓ev_Ret, ↓ev_Drop, ↓ev_sIf, ↓ev_Next, ↓ev_Brk, ↓ev_Cont, ↓ev_RetN, ↓ev_Sub, ↓ev_For, ↓ev_body, ↓ev_iE, ↓ev_iR1, ↓ev_iR2, ↓ev_iZ, ↓ev_iEn, ↓ev_item, ↓ev_Lc, ↓ev_Yes, ↓ev_Par3, ↓ev_As2, ↓ev_As4, ↓ev_CV, ↓ev_Fld, ↓ev_Mk, ↓ev_Mk0, ↓ev_Mt, ↓ev_ForM, ↓ev_bodyM, ↓ev_gTmT, ↓ev_gTmR, ↓ev_AsgM, ↓ev_Star, ↓ev_Dc, ↓ev_iRv, kForM_e, kAsgM_e, kSt1_e, kSt2_e, kSt3_e, seqT, seqRf, popRf, insRf, inE, notInE, kDc_e, kRv_e, revT, revL, vOf_e, kO_e, kO2_e, kU_e, kCons_e, kCons2_e, kL_e, kIf_t, kIf_f, kB_e, kTr_e, kTr2_e, kAn_t, kAn_f, kOr_t, kOr_f, kNo_e, kNotB_e, kAnB_t, kAnB_f, kOrB_t, kOrB_f, kTup_e, kLst_e, kCP_e, kD_e, kML_e, kML2_e, kS1_e, kS2_e, kS3_e, kI_e, kCh1_e, kCh2_e, kCh3_t, kCh3_f, kAsg_e, kNx_e, kRet_e, kDrop_e, kSif_t, kSif_f, kSub1_e, kSub2_e, kSub3_e, kNxM_e, kFor_e, kBody_e, kIE_e, kSrc_e, kR1_e, kR2_e, kR2b_e, kZ1_e, kZ2_e, kEn_e, kMap_e, kMap2_e, kIt1_e, kIt2_t, kIt2_f, kSome_e, kLc_e, kLc2_e, kGc_e, par3_e, kAs2_e, kAs3_e, kAs4_e, kAs5_e, kAs6_e, fnOf2_e, fnV_e, kCV_e, kFld1_e, kFld2_e, kMk_e, kMk2_e, kMt_e, kMt2_e, kMt3_e, gFldE, setFE, metE, insAt_zero, insAt_succ, ob_s, ob_n, then_nx, then_rt, then_bk, then_ct, par2_e, turn_nx, turn_ct, turn_bk, turn_rt, runT_nil, runT_cons, mapT_nil, mapT_cons, finP_nx, finM_rt, finM_nx, addE, subE, negE, cmpE, ixT, truI, truB, at0, at1, at2, at3, List.getElem?_cons_zero, List.getElem?_cons_succ, List.set_cons_zero, List.set_cons_succ, List.length_cons, List.length_nil, Nat.reduceAdd, Nat.reduceLeDiff, if_true, if_false, reduceIte, reduceCtorEq, id_eq, Bool.not_true, Bool.not_false, Bool.false_eq_true, and_self, Int.reduceLE, Int.reduceLT, Int.reduceNeg, decide_true, decide_false, Option.toList_some, Option.toList_none, List.cons_append, List.nil_append, ixRf, tupRf, lenRf, listRf, isLstRf, appRf, revRf, setRf, itemsRf, itemsT, itemsL, zipT, zipRf, allRf, anyRf, sumRf, tupT, slRf, isiE, t2E, lenT, lstAt_zero, lstAt_succ, Option.isSome_some, Nat.reduceLT, Bool.or_true, Bool.or_false, Bool.true_or, Bool.false_or, gIsN, gNotN, D.isNon, wipeD, eqI, hb]
      have e2 : sPar 2 3 (fCons (fV 3) (fCons (fO gMod (fV 2) (fV 3)) fNil)) [x0, x1, some (.int x), some (.int y)] M = some (.nx [x0, x1, some (.int y), some (.int (x.fmod y))], M) := by
        simp only [↓ev_V, ↓ev_C, ↓ev_O, ↓ev_U, ↓ev_Nil, ↓ev_Cons, ↓ev_L, ↓ev_If, ↓ev_tV, ↓ev_tTr, ↓ev_tAn, ↓ev_tOr, ↓ev_tNo, ↓ev_NotB, ↓ev_AnB, ↓ev_OrB, ↓ev_Tup, ↓ev_Lst, ↓ev_CP, ↓ev_ML, ↓ev_Sli, ↓ev_oN, ↓ev_oS, ↓ev_Ch, ↓ev_gN, ↓ev_gsNil, ↓ev_gsCons, ↓ev_gT, ↓ev_Seq, ↓ev_Asg, ↓ev_Par, ↓ev_Ret, ↓ev_Drop, ↓ev_sIf, ↓ev_Next, ↓ev_Brk, ↓ev_Cont, ↓ev_RetN, ↓ev_Sub, ↓ev_For, ↓ev_body, ↓ev_iE, ↓ev_iR1, ↓ev_iR2, ↓ev_iZ, ↓ev_iEn, ↓ev_item, ↓ev_Lc, ↓ev_Yes, ↓ev_Par3, ↓ev_As2, ↓ev_As4, ↓ev_CV, ↓ev_Fld, ↓ev_Mk, ↓ev_Mk0, ↓ev_Mt, ↓ev_ForM, ↓ev_bodyM, ↓ev_gTmT, ↓ev_gTmR, ↓ev_AsgM, ↓ev_Star, ↓ev_Dc, ↓ev_iRv, kForM_e, kAsgM_e, kSt1_e, kSt2_e, kSt3_e, seqT, seqRf, popRf, insRf, inE, notInE, kDc_e, kRv_e, revT, revL, vOf_e, kO_e, kO2_e, kU_e, kCons_e, kCons2_e, kL_e, kIf_t, kIf_f, kB_e, kTr_e, kTr2_e, kAn_t, kAn_f, kOr_t, kOr_f, kNo_e, kNotB_e, kAnB_t, kAnB_f, kOrB_t, kOrB_f, kTup_e, kLst_e, kCP_e, kD_e, kML_e, kML2_e, kS1_e, kS2_e, kS3_e, kI_e, kCh1_e, kCh2_e, kCh3_t, kCh3_f, kAsg_e, kNx_e, kRet_e, kDrop_e, kSif_t, kSif_f, kSub1_e, kSub2_e, kSub3_e, kNxM_e, kFor_e, kBody_e, kIE_e, kSrc_e, kR1_e, kR2_e, kR2b_e, kZ1_e, kZ2_e, kEn_e, kMap_e, kMap2_e, kIt1_e, kIt2_t, kIt2_f, kSome_e, kLc_e, kLc2_e, kGc_e, par3_e, kAs2_e, kAs3_e, kAs4_e, kAs5_e, kAs6_e, fnOf2_e, fnV_e, kCV_e, kFld1_e, kFld2_e, kMk_e, kMk2_e, kMt_e, kMt2_e, kMt3_e, gFldE, setFE, metE, insAt_zero, insAt_succ, ob_s, ob_n, then_nx, then_rt, then_bk, then_ct, par2_e, turn_nx, turn_ct, turn_bk, turn_rt, runT_nil, runT_cons, mapT_nil, mapT_cons, finP_nx, finM_rt, finM_nx, addE, subE, negE, cmpE, ixT, truI, truB, at0, at1, at2, at3, List.getElem?_cons_zero, List.getElem?_cons_succ, List.set_cons_zero, List.set_cons_succ, List.length_cons, List.length_nil, Nat.reduceAdd, Nat.reduceLeDiff, if_true, if_false, reduceIte, reduceCtorEq, id_eq, Bool.not_true, Bool.not_false, Bool.false_eq_true, and_self, Int.reduceLE, Int.reduceLT, Int.reduceNeg, decide_true, decide_false, Option.toList_some, Option.toList_none, List.cons_append, List.nil_append, ixRf, tupRf, lenRf, listRf, isLstRf, appRf, revRf, setRf, itemsRf, itemsT, itemsL, zipT, zipRf, allRf, anyRf, sumRf, tupT, slRf, isiE, t2E, lenT, lstAt_zero, lstAt_succ, Option.isSome_some, Nat.reduceLT, Bool.or_true, Bool.or_false, Bool.true_or, Bool.false_or, gIsN, gNotN, D.isNon, wipeD, modE (show y ≠ 0 by omega)]
      rw [e1]
      simp only [Option.bind_some, if_true, e2]
      exact ih
    · have e0 : y = 0 := by
        have := g.2.2
        omega
      subst e0
      have e1 : tV (fO gNe (fV 3) (fC (.int 0))) [x0, x1, some (.int x), some (.int 0)] M = some (false, M) := by
        simp only [↓ev_V, ↓ev_C, ↓ev_O, ↓ev_U, ↓ev_Nil, ↓ev_Cons, ↓ev_L, ↓ev_If, ↓ev_tV, ↓ev_tTr, ↓ev_tAn, ↓ev_tOr, ↓ev_tNo, ↓ev_NotB, ↓ev_AnB, ↓ev_OrB, ↓ev_Tup, ↓ev_Lst, ↓ev_CP, ↓ev_ML, ↓ev_Sli, ↓ev_oN, ↓ev_oS, ↓ev_Ch, ↓ev_gN, ↓ev_gsNil, ↓ev_gsCons, ↓ev_gT, ↓ev_Seq, ↓ev_Asg, ↓ev_Par, ↓ev_Ret, ↓ev_Drop, ↓ev_sIf, ↓ev_Next, ↓ev_Brk, ↓ev_Cont, ↓ev_RetN, ↓ev_Sub, ↓ev_For, ↓ev_body, ↓ev_iE, ↓ev_iR1, ↓ev_iR2, ↓ev_iZ, ↓ev_iEn, ↓ev_item, ↓ev_Lc, ↓ev_Yes, ↓ev_Par3, ↓ev_As2, ↓ev_As4, ↓ev_CV, ↓ev_Fld, ↓ev_Mk, ↓ev_Mk0, ↓ev_Mt, ↓ev_ForM, ↓ev_bodyM, ↓ev_gTmT, ↓ev_gTmR, ↓ev_AsgM, ↓ev_Star, ↓ev_Dc, ↓ev_iRv, kForM_e, kAsgM_e, kSt1_e, kSt2_e, kSt3_e, seqT, seqRf, popRf, insRf, inE, notInE, kDc_e, kRv_e, revT, revL, vOf_e, kO_e, kO2_e, kU_e, kCons_e, kCons2_e, kL_e, kIf_t, kIf_f, kB_e, kTr_e, kTr2_e, kAn_t, kAn_f, kOr_t, kOr_f, kNo_e, kNotB_e, kAnB_t, kAnB_f, kOrB_t, kOrB_f, kTup_e, kLst_e, kCP_e, kD_e, kML_e, kML2_e, kS1_e, kS2_e, kS3_e, kI_e, kCh1_e, kCh2_e, kCh3_t, kCh3_f, kAsg_e, kNx_e, kRet_e, kDrop_e, kSif_t, kSif_f, kSub1_e, kSub2_e, kSub3_e, kNxM_e, kFor_e, kBody_e, kIE_e, kSrc_e, kR1_e, kR2_e, kR2b_e, kZ1_e, kZ2_e, kEn_e, kMap_e, kMap2_e, kIt1_e, kIt2_t, kIt2_f, kSome_e, kLc_e, kLc2_e, kGc_e, par3_e, kAs2_e, kAs3_e, kAs4_e, kAs5_e, kAs6_e, fnOf2_e, fnV_e, kCV_e, kFld1_e, kFld2_e, kMk_e, kMk2_e, kMt_e, kMt2_e, kMt3_e, gFldE, setFE, metE, insAt_zero, insAt_succ, ob_s, ob_n, then_nx, then_rt, then_bk, then_ct, par2_e, turn_nx, turn_ct, turn_bk, turn_rt, runT_nil, runT_cons, mapT_nil, mapT_cons, finP_nx, finM_rt, finM_nx, addE, subE, negE, cmpE, ixT, truI, truB, at0, at1, at2, at3, List.getElem?_cons_zero, List.getElem?_cons_succ, List.set_cons_zero, List.set_cons_succ, List.length_cons, List.length_nil, Nat.reduceAdd, Nat.reduceLeDiff, if_true, if_false, reduceIte, reduceCtorEq, id_eq, Bool.not_true, Bool.not_false, Bool.false_eq_true, and_self, Int.reduceLE, Int.reduceLT, Int.reduceNeg, decide_true, decide_false, Option.toList_some, Option.toList_none, List.cons_append, List.nil_append, ixRf, tupRf, lenRf, listRf, isLstRf, appRf, revRf, setRf, itemsRf, itemsT, itemsL, zipT, zipRf, allRf, anyRf, sumRf, tupT, slRf, isiE, t2E, lenT, lstAt_zero, lstAt_succ, Option.isSome_some, Nat.reduceLT, Bool.or_true, Bool.or_false, Bool.true_or, Bool.false_or, gIsN, gNotN, D.isNon, wipeD, eqI, beq_self_eq_true]
      rw [e1, ← g.fin hy]
      rfl
theorem fr_e {a b : Int} (hz : b ≠ 0) (h : Bt 9000 b) : m__law_fr [.int a, .int b] = some (eF (Rat.divInt a b)) := by
  have g0 : HInv a b (if a < 0 then -a else a) (if b < 0 then -b else b) := ⟨gcd_abs a b, by split <;> omega, by split <;> omega⟩
  have w := sWhile_of (lr_loop (some (.int a)) (some (.int b)) [] a b _ _ _ (Nat.lt_succ_self _) g0)
  obtain ⟨hs, hs'⟩ := sg_ne (a := a) hz
  rw [e__law_fr _ _ rfl]
  unfold b__law_fr
  by_cases hb : b < 0
  · have hsg : (0 : Int) - (Int.gcd a b : Int) = sg a b := by
      unfold sg
      rw [if_pos hb]
      omega
    rw [if_pos hb] at w
    simp only [↓ev_V, ↓ev_C, ↓ev_O, ↓ev_U, ↓ev_Nil, ↓ev_Cons, ↓ev_L, ↓ev_If, ↓ev_tV, ↓ev_tTr, ↓ev_tAn, ↓ev_tOr, ↓ev_tNo, ↓ev_NotB, ↓ev_AnB, ↓ev_OrB, ↓ev_Tup, ↓ev_Lst, ↓ev_CP, ↓ev_ML, ↓ev_Sli, ↓ev_oN, ↓ev_oS, ↓ev_Ch, ↓ev_gN, ↓ev_gsNil, ↓ev_gsCons, ↓ev_gT, ↓ev_Seq, ↓ev_Asg, ↓ev_Par, ↓ev_Ret, ↓ev_Drop, ↓ev_sIf, ↓ev_Next, ↓ev_Brk, ↓ev_Cont, ↓ev_RetN, ↓ev_Sub, ↓ev_For, ↓ev_body, ↓ev_iE, ↓ev_iR1, ↓ev_iR2, ↓ev_iZ, ↓ev_iEn, ↓ev_item, ↓ev_Lc, ↓ev_Yes, ↓ev_Par3, ↓ev_As2, ↓ev_As4, ↓ev_CV, ↓ev_Fld, ↓ev_Mk, ↓ev_Mk0, ↓ev_Mt, ↓ev_ForM, ↓ev_bodyM, ↓ev_gTmT, ↓ev_gTmR, ↓ev_AsgM, ↓ev_Star, ↓ev_Dc, ↓ev_iRv, kForM_e, kAsgM_e, kSt1_e, kSt2_e, kSt3_e, seqT, seqRf, popRf, insRf, inE, notInE, kDc_e, kRv_e, revT, revL, vOf_e, kO_e, kO2_e, kU_e, kCons_e, kCons2_e, kL_e, kIf_t, kIf_f, kB_e, kTr_e, kTr2_e, kAn_t, kAn_f, kOr_t, kOr_f, kNo_e, kNotB_e, kAnB_t, kAnB_f, kOrB_t, kOrB_f, kTup_e, kLst_e, kCP_e, kD_e, kML_e, kML2_e, kS1_e, kS2_e, kS3_e, kI_e, kCh1_e, kCh2_e, kCh3_t, kCh3_f, kAsg_e, kNx_e, kRet_e, kDrop_e, kSif_t, kSif_f, kSub1_e, kSub2_e, kSub3_e, kNxM_e, kFor_e, kBody_e, kIE_e, kSrc_e, kR1_e, kR2_e, kR2b_e, kZ1_e, kZ2_e, kEn_e, kMap_e, kMap2_e, kIt1_e, kIt2_t, kIt2_f, kSome_e, kLc_e, kLc2_e, kGc_e, par3_e, kAs2_e, kAs3_e, kAs4_e, kAs5_e, kAs6_e, fnOf2_e, fnV_e, kCV_e, kFld1_e, kFld2_e, kMk_e, kMk2_e, kMt_e, kMt2_e, kMt3_e, gFldE, setFE, metE, insAt_zero, insAt_succ, ob_s, ob_n, then_nx, then_rt, then_bk, then_ct, par2_e, turn_nx, turn_ct, turn_bk, turn_rt, runT_nil, runT_cons, mapT_nil, mapT_cons, finP_nx, finM_rt, finM_nx, addE, subE, negE, cmpE, ixT, truI, truB, at0, at1, at2, at3, List.getElem?_cons_zero, List.getElem?_cons_succ, List.set_cons_zero, List.set_cons_succ, List.length_cons, List.length_nil, Nat.reduceAdd, Nat.reduceLeDiff, if_true, if_false, reduceIte, reduceCtorEq, id_eq, Bool.not_true, Bool.not_false, Bool.false_eq_true, and_self, Int.reduceLE, Int.reduceLT, Int.reduceNeg, decide_true, decide_false, Option.toList_some, Option.toList_none, List.cons_append, List.nil_append, ixRf, tupRf, lenRf, listRf, isLstRf, appRf, revRf, setRf, itemsRf, itemsT, itemsL, zipT, zipRf, allRf, anyRf, sumRf, tupT, slRf, isiE, t2E, lenT, lstAt_zero, lstAt_succ, Option.isSome_some, Nat.reduceLT, Bool.or_true, Bool.or_false, Bool.true_or, Bool.false_or, gIsN, gNotN, D.isNon, wipeD, absE, w, hb, hsg, fdE hs (h.le hs')]
    rw [sg_num hz, sg_den hz]
    exact finP_rt _ _ (lo_eF 0 _)
  · have hsg : (Int.gcd a b : Int) = sg a b := by
      unfold sg
      rw [if_neg hb]
    rw [hsg, if_neg hb] at w
    simp only [↓ev_V, ↓ev_C, ↓ev_O, ↓ev_U, ↓ev_Nil, ↓ev_Cons, ↓ev_L, ↓ev_If, ↓ev_tV, ↓ev_tTr, ↓ev_tAn, ↓ev_tOr, ↓ev_tNo, ↓ev_NotB, ↓ev_AnB, ↓ev_OrB, ↓ev_Tup, ↓ev_Lst, ↓ev_CP, ↓ev_ML, ↓ev_Sli, ↓ev_oN, ↓ev_oS, ↓ev_Ch, ↓ev_gN, ↓ev_gsNil, ↓ev_gsCons, ↓ev_gT, ↓ev_Seq, ↓ev_Asg, ↓ev_Par, ↓ev_Ret, ↓ev_Drop, ↓ev_sIf, ↓ev_Next, ↓ev_Brk, ↓ev_Cont, ↓ev_RetN, ↓ev_Sub, ↓ev_For, ↓ev_body, ↓ev_iE, ↓ev_iR1, ↓ev_iR2, ↓ev_iZ, ↓ev_iEn, ↓ev_item, ↓ev_Lc, ↓ev_Yes, ↓ev_Par3, ↓ev_As2, ↓ev_As4, ↓ev_CV, ↓ev_Fld, ↓ev_Mk, ↓ev_Mk0, ↓ev_Mt, ↓ev_ForM, ↓ev_bodyM, ↓ev_gTmT, ↓ev_gTmR, ↓ev_AsgM, ↓ev_Star, ↓ev_Dc, ↓ev_iRv, kForM_e, kAsgM_e, kSt1_e, kSt2_e, kSt3_e, seqT, seqRf, popRf, insRf, inE, notInE, kDc_e, kRv_e, revT, revL, vOf_e, kO_e, kO2_e, kU_e, kCons_e, kCons2_e, kL_e, kIf_t, kIf_f, kB_e, kTr_e, kTr2_e, kAn_t, kAn_f, kOr_t, kOr_f, kNo_e, kNotB_e, kAnB_t, kAnB_f, kOrB_t, kOrB_f, kTup_e, kLst_e, kCP_e, kD_e, kML_e, kML2_e, kS1_e, kS2_e, kS3_e, kI_e, kCh1_e, kCh2_e, kCh3_t, kCh3_f, kAsg_e, kNx_e, kRet_e, kDrop_e, kSif_t, kSif_f, kSub1_e, kSub2_e, kSub3_e, kNxM_e, kFor_e, kBody_e, kIE_e, kSrc_e, kR1_e, kR2_e, kR2b_e, kZ1_e, kZ2_e, kEn_e, kMap_e, kMap2_e, kIt1_e, kIt2_t, kIt2_f, kSome_e, kLc_e, kLc2_e, kGc_e, par3_e, kAs2_e, kAs3_e, kAs4_e, kAs5_e, kAs6_e, fnOf2_e, fnV_e, kCV_e, kFld1_e, kFld2_e, kMk_e, kMk2_e, kMt_e, kMt2_e, kMt3_e, gFldE, setFE, metE, insAt_zero, insAt_succ, ob_s, ob_n, then_nx, then_rt, then_bk, then_ct, par2_e, turn_nx, turn_ct, turn_bk, turn_rt, runT_nil, runT_cons, mapT_nil, mapT_cons, finP_nx, finM_rt, finM_nx, addE, subE, negE, cmpE, ixT, truI, truB, at0, at1, at2, at3, List.getElem?_cons_zero, List.getElem?_cons_succ, List.set_cons_zero, List.set_cons_succ, List.length_cons, List.length_nil, Nat.reduceAdd, Nat.reduceLeDiff, if_true, if_false, reduceIte, reduceCtorEq, id_eq, Bool.not_true, Bool.not_false, Bool.false_eq_true, and_self, Int.reduceLE, Int.reduceLT, Int.reduceNeg, decide_true, decide_false, Option.toList_some, Option.toList_none, List.cons_append, List.nil_append, ixRf, tupRf, lenRf, listRf, isLstRf, appRf, revRf, setRf, itemsRf, itemsT, itemsL, zipT, zipRf, allRf, anyRf, sumRf, tupT, slRf, isiE, t2E, lenT, lstAt_zero, lstAt_succ, Option.isSome_some, Nat.reduceLT, Bool.or_true, Bool.or_false, Bool.true_or, Bool.false_or, gIsN, gNotN, D.isNon, wipeD, absE, w, hb, fdE hs (h.le hs')]
    rw [sg_num hz, sg_den hz]
    exact finP_rt _ _ (lo_eF 0 _)
theorem ladd_e {m n : Nat} {q r : Rat} (hq : Rb m q) (hr : Rb n r) (h : m + n ≤ 9000) : m__law_add [eF q, eF r] = some (eF (q + r)) := by
  obtain ⟨h1, h2, h3, _, _, h4, _⟩ := two_rb hq hr h
  rw [e__law_add _ _ rfl]
  unfold b__law_add
  simp only [↓ev_V, ↓ev_C, ↓ev_O, ↓ev_U, ↓ev_Nil, ↓ev_Cons, ↓ev_L, ↓ev_If, ↓ev_tV, ↓ev_tTr, ↓ev_tAn, ↓ev_tOr, ↓ev_tNo, ↓ev_NotB, ↓ev_AnB, ↓ev_OrB, ↓ev_Tup, ↓ev_Lst, ↓ev_CP, ↓ev_ML, ↓ev_Sli, ↓ev_oN, ↓ev_oS, ↓ev_Ch, ↓ev_gN, ↓ev_gsNil, ↓ev_gsCons, ↓ev_gT, ↓ev_Seq, ↓ev_Asg, ↓ev_Par, ↓ev_Ret, ↓ev_Drop, ↓ev_sIf, ↓ev_Next, ↓ev_Brk, ↓ev_Cont, ↓ev_RetN, ↓ev_Sub, ↓ev_For, ↓ev_body, ↓ev_iE, ↓ev_iR1, ↓ev_iR2, ↓ev_iZ, ↓ev_iEn, ↓ev_item, ↓ev_Lc, ↓ev_Yes, ↓ev_Par3, ↓ev_As2, ↓ev_As4, ↓ev_CV, ↓ev_Fld, ↓ev_Mk, ↓ev_Mk0, ↓ev_Mt, ↓ev_ForM, ↓ev_bodyM, ↓ev_gTmT, ↓ev_gTmR, ↓ev_AsgM, ↓ev_Star, ↓ev_Dc, ↓ev_iRv, kForM_e, kAsgM_e, kSt1_e, kSt2_e, kSt3_e, seqT, seqRf, popRf, insRf, inE, notInE, kDc_e, kRv_e, revT, revL, vOf_e, kO_e, kO2_e, kU_e, kCons_e, kCons2_e, kL_e, kIf_t, kIf_f, kB_e, kTr_e, kTr2_e, kAn_t, kAn_f, kOr_t, kOr_f, kNo_e, kNotB_e, kAnB_t, kAnB_f, kOrB_t, kOrB_f, kTup_e, kLst_e, kCP_e, kD_e, kML_e, kML2_e, kS1_e, kS2_e, kS3_e, kI_e, kCh1_e, kCh2_e, kCh3_t, kCh3_f, kAsg_e, kNx_e, kRet_e, kDrop_e, kSif_t, kSif_f, kSub1_e, kSub2_e, kSub3_e, kNxM_e, kFor_e, kBody_e, kIE_e, kSrc_e, kR1_e, kR2_e, kR2b_e, kZ1_e, kZ2_e, kEn_e, kMap_e, kMap2_e, kIt1_e, kIt2_t, kIt2_f, kSome_e, kLc_e, kLc2_e, kGc_e, par3_e, kAs2_e, kAs3_e, kAs4_e, kAs5_e, kAs6_e, fnOf2_e, fnV_e, kCV_e, kFld1_e, kFld2_e, kMk_e, kMk2_e, kMt_e, kMt2_e, kMt3_e, gFldE, setFE, metE, insAt_zero, insAt_succ, ob_s, ob_n, then_nx, then_rt, then_bk, then_ct, par2_e, turn_nx, turn_ct, turn_bk, turn_rt, runT_nil, runT_cons, mapT_nil, mapT_cons, finP_nx, finM_rt, finM_nx, addE, subE, negE, cmpE, ixT, truI, truB, at0, at1, at2, at3, List.getElem?_cons_zero, List.getElem?_cons_succ, List.set_cons_zero, List.set_cons_succ, List.length_cons, List.length_nil, Nat.reduceAdd, Nat.reduceLeDiff, if_true, if_false, reduceIte, reduceCtorEq, id_eq, Bool.not_true, Bool.not_false, Bool.false_eq_true, and_self, Int.reduceLE, Int.reduceLT, Int.reduceNeg, decide_true, decide_false, Option.toList_some, Option.toList_none, List.cons_append, List.nil_append, ixRf, tupRf, lenRf, listRf, isLstRf, appRf, revRf, setRf, itemsRf, itemsT, itemsL, zipT, zipRf, allRf, anyRf, sumRf, tupT, slRf, isiE, t2E, lenT, lstAt_zero, lstAt_succ, Option.isSome_some, Nat.reduceLT, Bool.or_true, Bool.or_false, Bool.true_or, Bool.false_or, gIsN, gNotN, D.isNon, wipeD, ix_eF0, ix_eF1, mulE h1, mulE h2, mulE h3, fr_e (Int.mul_ne_zero (den_ne q) (den_ne r)) h4, rat_sum]
  exact finP_rt _ _ (lo_eF 0 _)
theorem lmul_e {m n : Nat} {q r : Rat} (hq : Rb m q) (hr : Rb n r) (h : m + n ≤ 9000) : m__law_mul [eF q, eF r] = some (eF (q * r)) := by
  obtain ⟨_, _, h3, h1, _, h4, _⟩ := two_rb hq hr h
  rw [e__law_mul _ _ rfl]
  unfold b__law_mul
  simp only [↓ev_V, ↓ev_C, ↓ev_O, ↓ev_U, ↓ev_Nil, ↓ev_Cons, ↓ev_L, ↓ev_If, ↓ev_tV, ↓ev_tTr, ↓ev_tAn, ↓ev_tOr, ↓ev_tNo, ↓ev_NotB, ↓ev_AnB, ↓ev_OrB, ↓ev_Tup, ↓ev_Lst, ↓ev_CP, ↓ev_ML, ↓ev_Sli, ↓ev_oN, ↓ev_oS, ↓ev_Ch, ↓ev_gN, ↓ev_gsNil, ↓ev_gsCons, ↓ev_gT, ↓ev_Seq, ↓ev_Asg, ↓ev_Par, ↓ev_Ret, ↓ev_Drop, ↓ev_sIf, ↓ev_Next, ↓ev_Brk, ↓ev_Cont, ↓ev_RetN, ↓ev_Sub, ↓ev_For, ↓ev_body, ↓ev_iE, ↓ev_iR1, ↓ev_iR2, ↓ev_iZ, ↓ev_iEn, ↓ev_item, ↓ev_Lc, ↓ev_Yes, ↓ev_Par3, ↓ev_As2, ↓ev_As4, ↓ev_CV, ↓ev_Fld, ↓ev_Mk, ↓ev_Mk0, ↓ev_Mt, ↓ev_ForM, ↓ev_bodyM, ↓ev_gTmT, ↓ev_gTmR, ↓ev_AsgM, ↓ev_Star, ↓ev_Dc, ↓ev_iRv, kForM_e, kAsgM_e, kSt1_e, kSt2_e, kSt3_e, seqT, seqRf, popRf, insRf, inE, notInE, kDc_e, kRv_e, revT, revL, vOf_e, kO_e, kO2_e, kU_e, kCons_e, kCons2_e, kL_e, kIf_t, kIf_f, kB_e, kTr_e, kTr2_e, kAn_t, kAn_f, kOr_t, kOr_f, kNo_e, kNotB_e, kAnB_t, kAnB_f, kOrB_t, kOrB_f, kTup_e, kLst_e, kCP_e, kD_e, kML_e, kML2_e, kS1_e, kS2_e, kS3_e, kI_e, kCh1_e, kCh2_e, kCh3_t, kCh3_f, kAsg_e, kNx_e, kRet_e, kDrop_e, kSif_t, kSif_f, kSub1_e, kSub2_e, kSub3_e, kNxM_e, kFor_e, kBody_e, kIE_e, kSrc_e, kR1_e, kR2_e, kR2b_e, kZ1_e, kZ2_e, kEn_e, kMap_e, kMap2_e, kIt1_e, kIt2_t, kIt2_f, kSome_e, kLc_e, kLc2_e, kGc_e, par3_e, kAs2_e, kAs3_e, kAs4_e, kAs5_e, kAs6_e, fnOf2_e, fnV_e, kCV_e, kFld1_e, kFld2_e, kMk_e, kMk2_e, kMt_e, kMt2_e, kMt3_e, gFldE, setFE, metE, insAt_zero, insAt_succ, ob_s, ob_n, then_nx, then_rt, then_bk, then_ct, par2_e, turn_nx, turn_ct, turn_bk, turn_rt, runT_nil, runT_cons, mapT_nil, mapT_cons, finP_nx, finM_rt, finM_nx, addE, subE, negE, cmpE, ixT, truI, truB, at0, at1, at2, at3, List.getElem?_cons_zero, List.getElem?_cons_succ, List.set_cons_zero, List.set_cons_succ, List.length_cons, List.length_nil, Nat.reduceAdd, Nat.reduceLeDiff, if_true, if_false, reduceIte, reduceCtorEq, id_eq, Bool.not_true, Bool.not_false, Bool.false_eq_true, and_self, Int.reduceLE, Int.reduceLT, Int.reduceNeg, decide_true, decide_false, Option.toList_some, Option.toList_none, List.cons_append, List.nil_append, ixRf, tupRf, lenRf, listRf, isLstRf, appRf, revRf, setRf, itemsRf, itemsT, itemsL, zipT, zipRf, allRf, anyRf, sumRf, tupT, slRf, isiE, t2E, lenT, lstAt_zero, lstAt_succ, Option.isSome_some, Nat.reduceLT, Bool.or_true, Bool.or_false, Bool.true_or, Bool.false_or, gIsN, gNotN, D.isNon, wipeD, ix_eF0, ix_eF1, mulE h1, mulE h3, fr_e (Int.mul_ne_zero (den_ne q) (den_ne r)) h4, rat_prod]
  exact finP_rt _ _ (lo_eF 0 _)
theorem rat_lt (q r : Rat) : q.num * (r.den : Int) < r.num * (q.den : Int) ↔ q < r := by
  rw [Rat.lt_iff]
theorem pairs3 (p q : P3) : pairs [eF p.x, eF p.y, eF p.z] [eF q.x, eF q.y, eF q.z] = [.tup [eF p.x, eF q.x], .tup [eF p.y, eF q.y], .tup [eF p.z, eF q.z]] := rfl
def P3.dot (p q : P3) : Rat := p.x * q.x + p.y * q.y + p.z * q.z
theorem eF0 : D.tup [.int 0, .int 1] = eF 0 := rfl
theorem rb_one {n : Nat} (h : 1 ≤ n) : Rb n (0 : Rat) := ⟨by unfold Bt; exact Nat.pow_pos (by decide), Bt.mono (m := 1) (by unfold Bt; decide) h⟩
theorem zipP (p q : P3) (M : Mem) : zipOf (eP p) (eP q) M = some ([.tup [eF p.x, eF q.x], .tup [eF p.y, eF q.y], .tup [eF p.z, eF q.z]], fun _ => True) := rfl

theorem ldot_e {m n : Nat} {p q : P3} (hp : p.B m) (hq : q.B n) (h : m + n ≤ 2990) : m__law_dot [eP p, eP q] = some (eF (p.dot q)) := by
  have m1 := lmul_e hp.1 hq.1 (by omega)
  have m2 := lmul_e hp.2.1 hq.2.1 (by omega)
  have m3 := lmul_e hp.2.2 hq.2.2 (by omega)
  have b1 := hp.1.mul hq.1
  have b2 := hp.2.1.mul hq.2.1
  have b3 := hp.2.2.mul hq.2.2
  have a1 := ladd_e (rb_one (n := 1) (by decide)) b1 (by omega)
  rw [Rat.zero_add] at a1
  have a2 := ladd_e b1 b2 (by omega)
  have a3 := ladd_e (b1.add b2) b3 (by omega)
  rw [e__law_dot _ _ rfl]
  unfold b__law_dot
  simp only [↓ev_V, ↓ev_C, ↓ev_O, ↓ev_U, ↓ev_Nil, ↓ev_Cons, ↓ev_L, ↓ev_If, ↓ev_tV, ↓ev_tTr, ↓ev_tAn, ↓ev_tOr, ↓ev_tNo, ↓ev_NotB, ↓ev_AnB, ↓ev_OrB, ↓ev_Tup, ↓ev_Lst, ↓ev_CP, ↓ev_ML, ↓ev_Sli, ↓ev_oN, ↓ev_oS, ↓ev_Ch, ↓ev_gN, ↓ev_gsNil, ↓ev_gsCons, ↓ev_gT, ↓ev_Seq, ↓ev_Asg, ↓ev_Par, ↓ev_Ret, ↓ev_Drop, ↓ev_sIf, ↓ev_Next, ↓ev_Brk, ↓ev_Cont, ↓ev_RetN, ↓ev_Sub, ↓ev_For, ↓ev_body, ↓ev_iE, ↓ev_iR1, ↓ev_iR2, ↓ev_iZ, ↓ev_iEn, ↓ev_item, ↓ev_Lc, ↓ev_Yes, ↓ev_Par3, ↓ev_As2, ↓ev_As4, ↓ev_CV, ↓ev_Fld, ↓ev_Mk, ↓ev_Mk0, ↓ev_Mt, ↓ev_ForM, ↓ev_bodyM, ↓ev_gTmT, ↓ev_gTmR, ↓ev_AsgM, ↓ev_Star, ↓ev_Dc, ↓ev_iRv, kForM_e, kAsgM_e, kSt1_e, kSt2_e, kSt3_e, seqT, seqRf, popRf, insRf, inE, notInE, kDc_e, kRv_e, revT, revL, vOf_e, kO_e, kO2_e, kU_e, kCons_e, kCons2_e, kL_e, kIf_t, kIf_f, kB_e, kTr_e, kTr2_e, kAn_t, kAn_f, kOr_t, kOr_f, kNo_e, kNotB_e, kAnB_t, kAnB_f, kOrB_t, kOrB_f, kTup_e, kLst_e, kCP_e, kD_e, kML_e, kML2_e, kS1_e, kS2_e, kS3_e, kI_e, kCh1_e, kCh2_e, kCh3_t, kCh3_f, kAsg_e, kNx_e, kRet_e, kDrop_e, kSif_t, kSif_f, kSub1_e, kSub2_e, kSub3_e, kNxM_e, kFor_e, kBody_e, kIE_e, kSrc_e, kR1_e, kR2_e, kR2b_e, kZ1_e, kZ2_e, kEn_e, kMap_e, kMap2_e, kIt1_e, kIt2_t, kIt2_f, kSome_e, kLc_e, kLc2_e, kGc_e, par3_e, kAs2_e, kAs3_e, kAs4_e, kAs5_e, kAs6_e, fnOf2_e, fnV_e, kCV_e, kFld1_e, kFld2_e, kMk_e, kMk2_e, kMt_e, kMt2_e, kMt3_e, gFldE, setFE, metE, insAt_zero, insAt_succ, ob_s, ob_n, then_nx, then_rt, then_bk, then_ct, par2_e, turn_nx, turn_ct, turn_bk, turn_rt, runT_nil, runT_cons, mapT_nil, mapT_cons, finP_nx, finM_rt, finM_nx, addE, subE, negE, cmpE, ixT, truI, truB, at0, at1, at2, at3, List.getElem?_cons_zero, List.getElem?_cons_succ, List.set_cons_zero, List.set_cons_succ, List.length_cons, List.length_nil, Nat.reduceAdd, Nat.reduceLeDiff, if_true, if_false, reduceIte, reduceCtorEq, id_eq, Bool.not_true, Bool.not_false, Bool.false_eq_true, and_self, Int.reduceLE, Int.reduceLT, Int.reduceNeg, decide_true, decide_false, Option.toList_some, Option.toList_none, List.cons_append, List.nil_append, ixRf, tupRf, lenRf, listRf, isLstRf, appRf, revRf, setRf, itemsRf, itemsT, itemsL, zipT, zipRf, allRf, anyRf, sumRf, tupT, slRf, isiE, t2E, lenT, lstAt_zero, lstAt_succ, Option.isSome_some, Nat.reduceLT, Bool.or_true, Bool.or_false, Bool.true_or, Bool.false_or, gIsN, gNotN, D.isNon, wipeD, zipP, m1, m2, m3, eF0, a1, a2, a3]
  exact finP_rt _ _ (lo_eF 0 _)

/-! sizes: a whole number over another one -/
def Fx (d n : Nat) (q : Rat) : Prop := ∃ a : Int, a.natAbs ≤ n ∧ q = Rat.divInt a (d : Int)
theorem Fx.rb {d n b : Nat} {q : Rat} (h : Fx d n q) (hd : 0 < d) (h1 : d < 2 ^ b) (h2 : n < 2 ^ b) : Rb b q := by
  obtain ⟨a, ha, rfl⟩ := h
  exact rb_div (by omega) (Nat.lt_of_le_of_lt ha h2) (by unfold Bt; simpa using h1)
theorem Fx.mul {d e m n : Nat} {q r : Rat} (h : Fx d m q) (k : Fx e n r) : Fx (d * e) (m * n) (q * r) := by
  obtain ⟨a, ha, rfl⟩ := h
  obtain ⟨b, hb, rfl⟩ := k
  refine ⟨a * b, ?_, ?_⟩
  · rw [Int.natAbs_mul]
    exact Nat.mul_le_mul ha hb
  · rw [Rat.divInt_mul_divInt, Int.natCast_mul]
theorem Fx.add {d m n : Nat} {q r : Rat} (hd : 0 < d) (h : Fx d m q) (k : Fx d n r) : Fx d (m + n) (q + r) := by
  obtain ⟨a, ha, rfl⟩ := h
  obtain ⟨b, hb, rfl⟩ := k
  refine ⟨a + b, by omega, ?_⟩
  rw [Rat.divInt_add_divInt _ _ (by omega) (by omega), ← Int.add_mul, Rat.divInt_mul_right (by omega)]
theorem Fx.up {d m : Nat} {q : Rat} (h : Fx d m q) {e : Nat} (he : 0 < e) : Fx (d * e) (m * e) q := by
  obtain ⟨a, ha, rfl⟩ := h
  refine ⟨a * e, ?_, ?_⟩
  · rw [Int.natAbs_mul]
    exact Nat.mul_le_mul ha (by simp)
  · rw [Int.natCast_mul, Rat.divInt_mul_right (by omega)]
theorem Fx.mono {d m n : Nat} {q : Rat} (h : Fx d m q) (hn : m ≤ n) : Fx d n q := by
  obtain ⟨a, ha, e⟩ := h
  exact ⟨a, by omega, e⟩
def P3.F (d n : Nat) (p : P3) : Prop := Fx d n p.x ∧ Fx d n p.y ∧ Fx d n p.z

/-! ### what the third family draws -/
theorem eq_fr (q r : Rat) (neg : Bool) (M : Mem) : gEqB neg (eF q) (eF r) M = some (.bl (if neg then !decide (q = r) else decide (q = r)), M) := by
  have sh : ∀ a b : Int, SeqAt.shaped (.tuple [.int a, .int b]) = true := fun a b => rfl
  rw [eqD (x := eF q) (y := eF r) (p := .tuple [.int q.num, .int q.den]) (q := .tuple [.int r.num, .int r.den]) rfl rfl (sh _ _) (sh _ _)]
  have e : PyData.eqv (.tuple [.int q.num, .int q.den]) (.tuple [.int r.num, .int r.den]) = decide (q = r) := by
    have : (q = r) ↔ (q.num = r.num ∧ (q.den : Int) = (r.den : Int)) := ⟨fun e => by rw [e]; exact ⟨rfl, rfl⟩, fun ⟨h1, h2⟩ => Rat.ext h1 (by omega)⟩
    simp only [PyData.eqv, PyData.eqvAll, Bool.and_true, this, Bool.decide_and]
    rw [Bool.beq_eq_decide_eq, Bool.beq_eq_decide_eq]
  rw [e]
/-- small numbers: below 32 in both parts, and so many thirtieths -/
def Nb (q : Rat) : Prop := Rb 5 q ∧ Fx 30 180 q
theorem nb_int {i : Int} (h : i.natAbs ≤ 6) : Nb (i : Rat) := ⟨rb_int (by decide) (by unfold Bt; omega), i * 30, by rw [Int.natAbs_mul]; exact Nat.mul_le_mul h (show (30 : Int).natAbs ≤ 30 by decide), by rw [show ((30 : Nat) : Int) = 1 * 30 from rfl, Rat.divInt_mul_right (by decide), Rat.divInt_eq_div]; grind⟩
def P3.N (p : P3) : Prop := Nb p.x ∧ Nb p.y ∧ Nb p.z
theorem P3.N.b {p : P3} (h : p.N) : p.B 5 := ⟨h.1.1, h.2.1.1, h.2.2.1⟩
theorem P3.N.f {p : P3} (h : p.N) : p.F 30 180 := ⟨h.1.2, h.2.1.2, h.2.2.2⟩
theorem num_f {k : Dk6} (h : k.Ok) {b : Nat} {d : Ds} (hd : d.O3 (b + 2)) {far : Int} (h1 : 0 < far) (h2 : far < 7) : ∃ q d', d'.O3 b ∧ Nb q ∧ ∀ rest, rest.all (Cell.lo 0) = true → m__law_num [.rf k.s, .int far] (k.M d ++ rest) = some (eF q, k.M d' ++ rest) := by
  obtain ⟨v, d1, o1, v1, v2, e1⟩ := h.pk (b := b + 1) hd (n := 6) (by decide) (by decide)
  have key : ∀ c e : Int, 1 ≤ c → c ≤ 5 → 1 ≤ e → e ≤ 30 → c * e = 30 → atI [D.int 1, D.int 1, D.int 1, D.int 2, D.int 3, D.int 5] v = some (.int c) → ∃ q d', d'.O3 b ∧ Nb q ∧ ∀ rest, rest.all (Cell.lo 0) = true → m__law_num [.rf k.s, .int far] (k.M d ++ rest) = some (eF q, k.M d' ++ rest) := fun c e c1 c2 e1' e2' ce ec => by
    have hf : 0 ≤ far * c := Int.mul_nonneg (by omega) (by omega)
    have hf2 : far * c ≤ 6 * 5 := Int.mul_le_mul (by omega) (by omega) (by omega) (by omega)
    have e2c : 2 * far * c = 2 * (far * c) := Int.mul_assoc 2 far c
    obtain ⟨u, d2, o2, u1, u2, e2⟩ := h.pk (b := b) o1 (n := 2 * far * c + 1) (by omega) (by omega)
    refine ⟨Rat.divInt (u - far * c) c, d2, o2, ⟨rb_div (by omega) (bt_abs (by omega) (by omega)) (bt_abs (by omega) (by omega)), (u - far * c) * e, ?_, ?_⟩, fun rest hrest => ?_⟩
    · rw [Int.natAbs_mul]
      have h1 : (u - far * c).natAbs ≤ (far * c).natAbs := by omega
      have h2 : (far * c).natAbs * e.natAbs ≤ 6 * 30 := by
        rw [← Int.natAbs_mul, Int.mul_assoc, ce, Int.natAbs_mul]
        exact Nat.mul_le_mul (by omega) (by decide)
      exact Nat.le_trans (Nat.mul_le_mul_right _ h1) h2
    · rw [show ((30 : Nat) : Int) = c * e from ce.symm, Rat.divInt_mul_right (by omega)]
    rw [e__law_num]
    unfold b__law_num
    have _ : Bg 1 far := bg_small (by omega) (by omega)
    have _ : Bg 1 c := bg_small (by omega) (by omega)
    have fr := fr_e (a := u - far * c) (b := c) (by omega) ((bt_abs (m := 15) (by omega) (by omega)).mono (by decide))
    have L : ∀ d, List.length (k.M d) = k.B.length := fun d => Dk6.len
    have z1 : ∀ (d : Ds) (ds : List D) (C : Mem), lstAt (k.M d ++ (rest ++ .lst ds :: C)) (k.B.length + rest.length) = some ds := fun d ds C => lstAt_of (new_at C (L d))
    simp only [↓ev_V, ↓ev_C, ↓ev_O, ↓ev_U, ↓ev_Nil, ↓ev_Cons, ↓ev_L, ↓ev_If, ↓ev_tV, ↓ev_tTr, ↓ev_tAn, ↓ev_tOr, ↓ev_tNo, ↓ev_NotB, ↓ev_AnB, ↓ev_OrB, ↓ev_Tup, ↓ev_Lst, ↓ev_CP, ↓ev_ML, ↓ev_Sli, ↓ev_oN, ↓ev_oS, ↓ev_Ch, ↓ev_gN, ↓ev_gsNil, ↓ev_gsCons, ↓ev_gT, ↓ev_Seq, ↓ev_Asg, ↓ev_Par, ↓ev_Ret, ↓ev_Drop, ↓ev_sIf, ↓ev_Next, ↓ev_Brk, ↓ev_Cont, ↓ev_RetN, ↓ev_Sub, ↓ev_For, ↓ev_body, ↓ev_iE, ↓ev_iR1, ↓ev_iR2, ↓ev_iZ, ↓ev_iEn, ↓ev_item, ↓ev_Lc, ↓ev_Yes, ↓ev_Par3, ↓ev_As2, ↓ev_As4, ↓ev_CV, ↓ev_Fld, ↓ev_Mk, ↓ev_Mk0, ↓ev_Mt, ↓ev_ForM, ↓ev_bodyM, ↓ev_gTmT, ↓ev_gTmR, ↓ev_AsgM, ↓ev_Star, ↓ev_Dc, ↓ev_iRv, kForM_e, kAsgM_e, kSt1_e, kSt2_e, kSt3_e, seqT, seqRf, popRf, insRf, inE, notInE, kDc_e, kRv_e, revT, revL, vOf_e, kO_e, kO2_e, kU_e, kCons_e, kCons2_e, kL_e, kIf_t, kIf_f, kB_e, kTr_e, kTr2_e, kAn_t, kAn_f, kOr_t, kOr_f, kNo_e, kNotB_e, kAnB_t, kAnB_f, kOrB_t, kOrB_f, kTup_e, kLst_e, kCP_e, kD_e, kML_e, kML2_e, kS1_e, kS2_e, kS3_e, kI_e, kCh1_e, kCh2_e, kCh3_t, kCh3_f, kAsg_e, kNx_e, kRet_e, kDrop_e, kSif_t, kSif_f, kSub1_e, kSub2_e, kSub3_e, kNxM_e, kFor_e, kBody_e, kIE_e, kSrc_e, kR1_e, kR2_e, kR2b_e, kZ1_e, kZ2_e, kEn_e, kMap_e, kMap2_e, kIt1_e, kIt2_t, kIt2_f, kSome_e, kLc_e, kLc2_e, kGc_e, par3_e, kAs2_e, kAs3_e, kAs4_e, kAs5_e, kAs6_e, fnOf2_e, fnV_e, kCV_e, kFld1_e, kFld2_e, kMk_e, kMk2_e, kMt_e, kMt2_e, kMt3_e, gFldE, setFE, metE, insAt_zero, insAt_succ, ob_s, ob_n, then_nx, then_rt, then_bk, then_ct, par2_e, turn_nx, turn_ct, turn_bk, turn_rt, runT_nil, runT_cons, mapT_nil, mapT_cons, finP_nx, finM_rt, finM_nx, addE, subE, negE, cmpE, ixT, truI, truB, at0, at1, at2, at3, List.getElem?_cons_zero, List.getElem?_cons_succ, List.set_cons_zero, List.set_cons_succ, List.length_cons, List.length_nil, Nat.reduceAdd, Nat.reduceLeDiff, if_true, if_false, reduceIte, reduceCtorEq, id_eq, Bool.not_true, Bool.not_false, Bool.false_eq_true, and_self, Int.reduceLE, Int.reduceLT, Int.reduceNeg, decide_true, decide_false, Option.toList_some, Option.toList_none, List.cons_append, List.nil_append, ixRf, tupRf, lenRf, listRf, isLstRf, appRf, revRf, setRf, itemsRf, itemsT, itemsL, zipT, zipRf, allRf, anyRf, sumRf, tupT, slRf, isiE, t2E, lenT, lstAt_zero, lstAt_succ, Option.isSome_some, Nat.reduceLT, Bool.or_true, Bool.or_false, Bool.true_or, Bool.false_or, gIsN, gNotN, D.isNon, wipeD, e1, L, List.append_assoc, List.length_append, z1, ec, mulT, e2, fr]
    rw [← List.append_assoc, gc_e (by simp [Dk6.len]) rfl (by
      rw [List.all_append, h.all (by omega), Bool.true_and, List.all_eq_true]
      exact fun c hc => Cell.lo_le (Nat.zero_le _) (List.all_eq_true.mp hrest c hc))]
  have : v = 0 ∨ v = 1 ∨ v = 2 ∨ v = 3 ∨ v = 4 ∨ v = 5 := by omega
  rcases this with rfl | rfl | rfl | rfl | rfl | rfl
  · exact key 1 30 (by decide) (by decide) (by decide) (by decide) (by decide) rfl
  · exact key 1 30 (by decide) (by decide) (by decide) (by decide) (by decide) rfl
  · exact key 1 30 (by decide) (by decide) (by decide) (by decide) (by decide) rfl
  · exact key 2 15 (by decide) (by decide) (by decide) (by decide) (by decide) rfl
  · exact key 3 10 (by decide) (by decide) (by decide) (by decide) (by decide) rfl
  · exact key 5 6 (by decide) (by decide) (by decide) (by decide) (by decide) rfl

theorem repRf (l : Nat) (M : Mem) : gMul (.rf l) (.int 3) M = ob (lstAt M l) fun ds => if ds.length ≤ 100 then some (.rf M.length, M ++ [.lst (ds ++ (ds ++ (ds ++ [])))]) else none := by
  simp only [gMul, lstAt, ob]
  cases M[l]? with
  | none => rfl
  | some c =>
    cases c with
    | lst ds =>
      simp only [Option.bind_some]
      by_cases h : ds.length ≤ 100
      · rw [if_pos h, if_pos ⟨by decide, by decide, h⟩]
        rfl
      · rw [if_neg h, if_neg fun z => h z.2.2]
    | _ => rfl
theorem eq_three {M : Mem} {i j : Nat} {a b c : Rat} (hi : M[i]? = some (.lst [eF a, eF b, eF c])) (hj : M[j]? = some (.lst [eF 0, eF 0, eF 0])) : gEq (.rf i) (.rf j) M = some (.bl (decide (a = 0 ∧ b = 0 ∧ c = 0)), M) := by
  have py : ∀ a b c : Rat, D.pys [eF a, eF b, eF c] = some [.tuple [.int a.num, .int a.den], .tuple [.int b.num, .int b.den], .tuple [.int c.num, .int c.den]] := fun _ _ _ => rfl
  rw [show gEq = gEqB false from rfl, eqR hi hj (py a b c) (py 0 0 0) rfl rfl false]
  have z : ∀ q : Rat, (q = 0) ↔ (q.num = 0 ∧ (q.den : Int) = 1) := fun q => ⟨fun e => by rw [e]; exact ⟨rfl, rfl⟩, fun ⟨h1, h2⟩ => Rat.ext h1 (by show q.den = 1; omega)⟩
  have e : PyData.eqv (.list [.tuple [.int a.num, .int a.den], .tuple [.int b.num, .int b.den], .tuple [.int c.num, .int c.den]]) (.list [.tuple [.int (0 : Rat).num, .int (0 : Rat).den], .tuple [.int (0 : Rat).num, .int (0 : Rat).den], .tuple [.int (0 : Rat).num, .int (0 : Rat).den]]) = decide (a = 0 ∧ b = 0 ∧ c = 0) := by
    simp only [PyData.eqv, PyData.eqvAll, Bool.and_true, z a, z b, z c, Bool.decide_and, Bool.beq_eq_decide_eq]
    rfl
  rw [e]
  rfl
theorem gc3 {k : Dk6} (h : k.Ok) {d : Ds} {rest G : Mem} {v : D} (hrest : rest.all (Cell.lo 0) = true) (hv : v.lo (k.B.length + rest.length) = true) : gc (k.B.length + rest.length) (v, k.M d ++ (rest ++ G)) = (v, k.M d ++ rest) := by
  rw [← List.append_assoc, gc_e (by simp [Dk6.len]) hv (by
    rw [List.all_append, h.all (by omega), Bool.true_and, List.all_eq_true]
    exact fun c hc => Cell.lo_le (Nat.zero_le _) (List.all_eq_true.mp hrest c hc))]
theorem point_f {k : Dk6} (h : k.Ok) {b : Nat} {d : Ds} (hd : d.O3 (b + 6)) {far : Int} (h1 : 0 < far) (h2 : far < 7) : ∃ p d', d'.O3 b ∧ P3.N p ∧ ∀ rest, rest.all (Cell.lo 0) = true → m__law_point [.rf k.s, .int far] (k.M d ++ rest) = some (eP p, k.M d' ++ rest) := by
  obtain ⟨q1, d1, o1, b1, e1⟩ := num_f h (b := b + 4) hd h1 h2
  obtain ⟨q2, d2, o2, b2, e2⟩ := num_f h (b := b + 2) o1 h1 h2
  obtain ⟨q3, d3, o3, b3, e3⟩ := num_f h (b := b) o2 h1 h2
  refine ⟨⟨q1, q2, q3⟩, d3, o3, ⟨b1, b2, b3⟩, fun rest hrest => ?_⟩
  rw [e__law_point]
  unfold b__law_point
  have L : ∀ d, List.length (k.M d) = k.B.length := fun d => Dk6.len
  have z1 : ∀ (d : Ds) (ds : List D) (C : Mem), lstAt (k.M d ++ (rest ++ .lst ds :: C)) (k.B.length + rest.length) = some ds := fun d ds C => lstAt_of (new_at C (L d))
  simp only [↓ev_V, ↓ev_C, ↓ev_O, ↓ev_U, ↓ev_Nil, ↓ev_Cons, ↓ev_L, ↓ev_If, ↓ev_tV, ↓ev_tTr, ↓ev_tAn, ↓ev_tOr, ↓ev_tNo, ↓ev_NotB, ↓ev_AnB, ↓ev_OrB, ↓ev_Tup, ↓ev_Lst, ↓ev_CP, ↓ev_ML, ↓ev_Sli, ↓ev_oN, ↓ev_oS, ↓ev_Ch, ↓ev_gN, ↓ev_gsNil, ↓ev_gsCons, ↓ev_gT, ↓ev_Seq, ↓ev_Asg, ↓ev_Par, ↓ev_Ret, ↓ev_Drop, ↓ev_sIf, ↓ev_Next, ↓ev_Brk, ↓ev_Cont, ↓ev_RetN, ↓ev_Sub, ↓ev_For, ↓ev_body, ↓ev_iE, ↓ev_iR1, ↓ev_iR2, ↓ev_iZ, ↓ev_iEn, ↓ev_item, ↓ev_Lc, ↓ev_Yes, ↓ev_Par3, ↓ev_As2, ↓ev_As4, ↓ev_CV, ↓ev_Fld, ↓ev_Mk, ↓ev_Mk0, ↓ev_Mt, ↓ev_ForM, ↓ev_bodyM, ↓ev_gTmT, ↓ev_gTmR, ↓ev_AsgM, ↓ev_Star, ↓ev_Dc, ↓ev_iRv, kForM_e, kAsgM_e, kSt1_e, kSt2_e, kSt3_e, seqT, seqRf, popRf, insRf, inE, notInE, kDc_e, kRv_e, revT, revL, vOf_e, kO_e, kO2_e, kU_e, kCons_e, kCons2_e, kL_e, kIf_t, kIf_f, kB_e, kTr_e, kTr2_e, kAn_t, kAn_f, kOr_t, kOr_f, kNo_e, kNotB_e, kAnB_t, kAnB_f, kOrB_t, kOrB_f, kTup_e, kLst_e, kCP_e, kD_e, kML_e, kML2_e, kS1_e, kS2_e, kS3_e, kI_e, kCh1_e, kCh2_e, kCh3_t, kCh3_f, kAsg_e, kNx_e, kRet_e, kDrop_e, kSif_t, kSif_f, kSub1_e, kSub2_e, kSub3_e, kNxM_e, kFor_e, kBody_e, kIE_e, kSrc_e, kR1_e, kR2_e, kR2b_e, kZ1_e, kZ2_e, kEn_e, kMap_e, kMap2_e, kIt1_e, kIt2_t, kIt2_f, kSome_e, kLc_e, kLc2_e, kGc_e, par3_e, kAs2_e, kAs3_e, kAs4_e, kAs5_e, kAs6_e, fnOf2_e, fnV_e, kCV_e, kFld1_e, kFld2_e, kMk_e, kMk2_e, kMt_e, kMt2_e, kMt3_e, gFldE, setFE, metE, insAt_zero, insAt_succ, ob_s, ob_n, then_nx, then_rt, then_bk, then_ct, par2_e, turn_nx, turn_ct, turn_bk, turn_rt, runT_nil, runT_cons, mapT_nil, mapT_cons, finP_nx, finM_rt, finM_nx, addE, subE, negE, cmpE, ixT, truI, truB, at0, at1, at2, at3, List.getElem?_cons_zero, List.getElem?_cons_succ, List.set_cons_zero, List.set_cons_succ, List.length_cons, List.length_nil, Nat.reduceAdd, Nat.reduceLeDiff, if_true, if_false, reduceIte, reduceCtorEq, id_eq, Bool.not_true, Bool.not_false, Bool.false_eq_true, and_self, Int.reduceLE, Int.reduceLT, Int.reduceNeg, decide_true, decide_false, Option.toList_some, Option.toList_none, List.cons_append, List.nil_append, ixRf, tupRf, lenRf, listRf, isLstRf, appRf, revRf, setRf, itemsRf, itemsT, itemsL, zipT, zipRf, allRf, anyRf, sumRf, tupT, slRf, isiE, t2E, lenT, lstAt_zero, lstAt_succ, Option.isSome_some, Nat.reduceLT, Bool.or_true, Bool.or_false, Bool.true_or, Bool.false_or, gIsN, gNotN, D.isNon, wipeD, upto3, e1 rest hrest, e2 rest hrest, e3 rest hrest, L, List.append_assoc, List.length_append, z1]
  rw [gc3 h hrest rfl]
  rfl
/-- not nought thrice -/
def P3.ne (p : P3) : Prop := ¬ (p.x = 0 ∧ p.y = 0 ∧ p.z = 0)
theorem set_a (v : Int) (a : Rat) (y z : D) : (if v = 0 then [eF 0, y, z] else [eF a, y, z]) = [eF (if v = 0 then 0 else a), y, z] := by split <;> rfl
theorem set_b (v : Int) (a : Rat) (y z : D) : (if v = 0 then [y, eF 0, z] else [y, eF a, z]) = [y, eF (if v = 0 then 0 else a), z] := by split <;> rfl
theorem set_c (v : Int) (a : Rat) (y z : D) : (if v = 0 then [y, z, eF 0] else [y, z, eF a]) = [y, z, eF (if v = 0 then 0 else a)] := by split <;> rfl
theorem way_turn {k : Dk6} (h : k.Ok) {d d' : Ds} {v : Int} (e : ∀ rest, m__law_pick [.rf k.s, .int 4] (k.M d ++ rest) = some (.int v, k.M d' ++ rest)) (rest : Mem) (f x3 : Option D) (l : List D) (j : Int) (jn : Nat) (hj : ixN l.length j = some jn) :
    bodyG (gN 3) (sIf (tV (fO gEq (fL m__law_pick (fCons (fV 0) (fCons (fC (.int 4)) fNil))) (fC (.int 0)))) (sSub (fTup (fCons (fC (.int 0)) (fCons (fC (.int 1)) fNil))) (fV 2) (fV 3)) sNext) (.int j) [some (.rf k.s), f, some (.rf (k.B.length + rest.length)), x3] (k.M d ++ (rest ++ [.lst l])) =
      some (.nx [some (.rf k.s), f, some (.rf (k.B.length + rest.length)), some (.int j)], k.M d' ++ (rest ++ [.lst (if v = 0 then l.set jn (eF 0) else l)])) := by
  have L : ∀ d, List.length (k.M d) = k.B.length := fun d => Dk6.len
  have z1 : ∀ (d : Ds) (ds : List D) (C : Mem), lstAt (k.M d ++ (rest ++ .lst ds :: C)) (k.B.length + rest.length) = some ds := fun d ds C => lstAt_of (new_at C (L d))
  have z2 : ∀ (d : Ds) (c c' : Cell) (C : Mem), (k.M d ++ (rest ++ c :: C)).set (k.B.length + rest.length) c' = k.M d ++ (rest ++ c' :: C) := fun d c c' C => set_new (L d)
  by_cases hv : v = 0
  · subst hv
    simp only [↓ev_V, ↓ev_C, ↓ev_O, ↓ev_U, ↓ev_Nil, ↓ev_Cons, ↓ev_L, ↓ev_If, ↓ev_tV, ↓ev_tTr, ↓ev_tAn, ↓ev_tOr, ↓ev_tNo, ↓ev_NotB, ↓ev_AnB, ↓ev_OrB, ↓ev_Tup, ↓ev_Lst, ↓ev_CP, ↓ev_ML, ↓ev_Sli, ↓ev_oN, ↓ev_oS, ↓ev_Ch, ↓ev_gN, ↓ev_gsNil, ↓ev_gsCons, ↓ev_gT, ↓ev_Seq, ↓ev_Asg, ↓ev_Par, ↓ev_Ret, ↓ev_Drop, ↓ev_sIf, ↓ev_Next, ↓ev_Brk, ↓ev_Cont, ↓ev_RetN, ↓ev_Sub, ↓ev_For, ↓ev_body, ↓ev_iE, ↓ev_iR1, ↓ev_iR2, ↓ev_iZ, ↓ev_iEn, ↓ev_item, ↓ev_Lc, ↓ev_Yes, ↓ev_Par3, ↓ev_As2, ↓ev_As4, ↓ev_CV, ↓ev_Fld, ↓ev_Mk, ↓ev_Mk0, ↓ev_Mt, ↓ev_ForM, ↓ev_bodyM, ↓ev_gTmT, ↓ev_gTmR, ↓ev_AsgM, ↓ev_Star, ↓ev_Dc, ↓ev_iRv, kForM_e, kAsgM_e, kSt1_e, kSt2_e, kSt3_e, seqT, seqRf, popRf, insRf, inE, notInE, kDc_e, kRv_e, revT, revL, vOf_e, kO_e, kO2_e, kU_e, kCons_e, kCons2_e, kL_e, kIf_t, kIf_f, kB_e, kTr_e, kTr2_e, kAn_t, kAn_f, kOr_t, kOr_f, kNo_e, kNotB_e, kAnB_t, kAnB_f, kOrB_t, kOrB_f, kTup_e, kLst_e, kCP_e, kD_e, kML_e, kML2_e, kS1_e, kS2_e, kS3_e, kI_e, kCh1_e, kCh2_e, kCh3_t, kCh3_f, kAsg_e, kNx_e, kRet_e, kDrop_e, kSif_t, kSif_f, kSub1_e, kSub2_e, kSub3_e, kNxM_e, kFor_e, kBody_e, kIE_e, kSrc_e, kR1_e, kR2_e, kR2b_e, kZ1_e, kZ2_e, kEn_e, kMap_e, kMap2_e, kIt1_e, kIt2_t, kIt2_f, kSome_e, kLc_e, kLc2_e, kGc_e, par3_e, kAs2_e, kAs3_e, kAs4_e, kAs5_e, kAs6_e, fnOf2_e, fnV_e, kCV_e, kFld1_e, kFld2_e, kMk_e, kMk2_e, kMt_e, kMt2_e, kMt3_e, gFldE, setFE, metE, insAt_zero, insAt_succ, ob_s, ob_n, then_nx, then_rt, then_bk, then_ct, par2_e, turn_nx, turn_ct, turn_bk, turn_rt, runT_nil, runT_cons, mapT_nil, mapT_cons, finP_nx, finM_rt, finM_nx, addE, subE, negE, cmpE, ixT, truI, truB, at0, at1, at2, at3, List.getElem?_cons_zero, List.getElem?_cons_succ, List.set_cons_zero, List.set_cons_succ, List.length_cons, List.length_nil, Nat.reduceAdd, Nat.reduceLeDiff, if_true, if_false, reduceIte, reduceCtorEq, id_eq, Bool.not_true, Bool.not_false, Bool.false_eq_true, and_self, Int.reduceLE, Int.reduceLT, Int.reduceNeg, decide_true, decide_false, Option.toList_some, Option.toList_none, List.cons_append, List.nil_append, ixRf, tupRf, lenRf, listRf, isLstRf, appRf, revRf, setRf, itemsRf, itemsT, itemsL, zipT, zipRf, allRf, anyRf, sumRf, tupT, slRf, isiE, t2E, lenT, lstAt_zero, lstAt_succ, Option.isSome_some, Nat.reduceLT, Bool.or_true, Bool.or_false, Bool.true_or, Bool.false_or, gIsN, gNotN, D.isNon, wipeD, e, eqI, beq_self_eq_true, z1, z2, hj, eF0]
  · have hb : (v == 0) = false := by simpa using hv
    simp only [↓ev_V, ↓ev_C, ↓ev_O, ↓ev_U, ↓ev_Nil, ↓ev_Cons, ↓ev_L, ↓ev_If, ↓ev_tV, ↓ev_tTr, ↓ev_tAn, ↓ev_tOr, ↓ev_tNo, ↓ev_NotB, ↓ev_AnB, ↓ev_OrB, ↓ev_Tup, ↓ev_Lst, ↓ev_CP, ↓ev_ML, ↓ev_Sli, ↓ev_oN, ↓ev_oS, ↓ev_Ch, ↓ev_gN, ↓ev_gsNil, ↓ev_gsCons, ↓ev_gT, ↓ev_Seq, ↓ev_Asg, ↓ev_Par, ↓ev_Ret, ↓ev_Drop, ↓ev_sIf, ↓ev_Next, ↓ev_Brk, ↓ev_Cont, ↓ev_RetN, ↓ev_Sub, ↓ev_For, ↓ev_body, ↓ev_iE, ↓ev_iR1, ↓ev_iR2, ↓ev_iZ, ↓ev_iEn, ↓ev_item, ↓ev_Lc, ↓ev_Yes, ↓ev_Par3, ↓ev_As2, ↓ev_As4, ↓ev_CV, ↓ev_Fld, ↓ev_Mk, ↓ev_Mk0, ↓ev_Mt, ↓ev_ForM, ↓ev_bodyM, ↓ev_gTmT, ↓ev_gTmR, ↓ev_AsgM, ↓ev_Star, ↓ev_Dc, ↓ev_iRv, kForM_e, kAsgM_e, kSt1_e, kSt2_e, kSt3_e, seqT, seqRf, popRf, insRf, inE, notInE, kDc_e, kRv_e, revT, revL, vOf_e, kO_e, kO2_e, kU_e, kCons_e, kCons2_e, kL_e, kIf_t, kIf_f, kB_e, kTr_e, kTr2_e, kAn_t, kAn_f, kOr_t, kOr_f, kNo_e, kNotB_e, kAnB_t, kAnB_f, kOrB_t, kOrB_f, kTup_e, kLst_e, kCP_e, kD_e, kML_e, kML2_e, kS1_e, kS2_e, kS3_e, kI_e, kCh1_e, kCh2_e, kCh3_t, kCh3_f, kAsg_e, kNx_e, kRet_e, kDrop_e, kSif_t, kSif_f, kSub1_e, kSub2_e, kSub3_e, kNxM_e, kFor_e, kBody_e, kIE_e, kSrc_e, kR1_e, kR2_e, kR2b_e, kZ1_e, kZ2_e, kEn_e, kMap_e, kMap2_e, kIt1_e, kIt2_t, kIt2_f, kSome_e, kLc_e, kLc2_e, kGc_e, par3_e, kAs2_e, kAs3_e, kAs4_e, kAs5_e, kAs6_e, fnOf2_e, fnV_e, kCV_e, kFld1_e, kFld2_e, kMk_e, kMk2_e, kMt_e, kMt2_e, kMt3_e, gFldE, setFE, metE, insAt_zero, insAt_succ, ob_s, ob_n, then_nx, then_rt, then_bk, then_ct, par2_e, turn_nx, turn_ct, turn_bk, turn_rt, runT_nil, runT_cons, mapT_nil, mapT_cons, finP_nx, finM_rt, finM_nx, addE, subE, negE, cmpE, ixT, truI, truB, at0, at1, at2, at3, List.getElem?_cons_zero, List.getElem?_cons_succ, List.set_cons_zero, List.set_cons_succ, List.length_cons, List.length_nil, Nat.reduceAdd, Nat.reduceLeDiff, if_true, if_false, reduceIte, reduceCtorEq, id_eq, Bool.not_true, Bool.not_false, Bool.false_eq_true, and_self, Int.reduceLE, Int.reduceLT, Int.reduceNeg, decide_true, decide_false, Option.toList_some, Option.toList_none, List.cons_append, List.nil_append, ixRf, tupRf, lenRf, listRf, isLstRf, appRf, revRf, setRf, itemsRf, itemsT, itemsL, zipT, zipRf, allRf, anyRf, sumRf, tupT, slRf, isiE, t2E, lenT, lstAt_zero, lstAt_succ, Option.isSome_some, Nat.reduceLT, Bool.or_true, Bool.or_false, Bool.true_or, Bool.false_or, gIsN, gNotN, D.isNon, wipeD, e, eqI, hb, if_neg hv]
theorem way_f {k : Dk6} (h : k.Ok) {b : Nat} {d : Ds} (hd : d.O3 (b + 11)) {far : Int} (h1 : 0 < far) (h2 : far < 7) : ∃ p d', d'.O3 b ∧ P3.N p ∧ p.ne ∧ ∀ rest, rest.all (Cell.lo 0) = true → m__law_way [.rf k.s, .int far] (k.M d ++ rest) = some (eP p, k.M d' ++ rest) := by
  obtain ⟨q1, d1, o1, b1, e1⟩ := num_f h (b := b + 9) hd h1 h2
  obtain ⟨q2, d2, o2, b2, e2⟩ := num_f h (b := b + 7) o1 h1 h2
  obtain ⟨q3, d3, o3, b3, e3⟩ := num_f h (b := b + 5) o2 h1 h2
  obtain ⟨v1, d4, o4, v11, v12, e4⟩ := h.pk (b := b + 4) o3 (n := 4) (by decide) (by decide)
  obtain ⟨v2, d5, o5, v21, v22, e5⟩ := h.pk (b := b + 3) o4 (n := 4) (by decide) (by decide)
  obtain ⟨v3, d6, o6, v31, v32, e6⟩ := h.pk (b := b + 2) o5 (n := 4) (by decide) (by decide)
  have L : ∀ d, List.length (k.M d) = k.B.length := fun d => Dk6.len
  have n0 : Nb (0 : Rat) := nb_int (by decide)
  have key : ∀ a1 a2 a3 : Rat, Nb a1 → Nb a2 → Nb a3 → ((if v1 = 0 then 0 else q1) = a1) → ((if v2 = 0 then 0 else q2) = a2) → ((if v3 = 0 then 0 else q3) = a3) → ∃ p d', d'.O3 b ∧ P3.N p ∧ p.ne ∧ ∀ rest, rest.all (Cell.lo 0) = true → m__law_way [.rf k.s, .int far] (k.M d ++ rest) = some (eP p, k.M d' ++ rest) := fun a1 a2 a3 r1 r2 r3 f1 f2 f3 => by
    have front : ∀ rest : Mem, rest.all (Cell.lo 0) = true → ∀ x, m__law_way [.rf k.s, .int far] (k.M d ++ rest) = x ↔ ob (ob (sSeq (sIf (tV (fO gEq (fV 2) (fO gMul (fLst (fCons (fTup (fCons (fC (.int 0)) (fCons (fC (.int 1)) fNil))) fNil)) (fC (.int 3))))) (sSub (fO gIx (fLst (fCons (fTup (fCons (fC (.int 1)) (fCons (fC (.int 1)) fNil))) (fCons (fTup (fCons (fU gNeg (fC (.int 1))) (fCons (fC (.int 1)) fNil))) (fCons (fTup (fCons (fC (.int 2)) (fCons (fC (.int 1)) fNil))) fNil)))) (fL m__law_pick (fCons (fV 0) (fCons (fC (.int 3)) fNil)))) (fV 2) (fL m__law_pick (fCons (fV 0) (fCons (fC (.int 3)) fNil)))) sNext)
        (sRet (fL bTuple (fCons (fV 2) fNil))) [some (.rf k.s), some (.int far), some (.rf (k.B.length + rest.length)), some (.int 2)] (k.M d6 ++ (rest ++ [.lst [eF a1, eF a2, eF a3]]))) finM) (kGc (k.B.length + rest.length)) = x := fun rest hrest x => by
      rw [e__law_way]
      unfold b__law_way
      have t1 := fun f x3 l => way_turn h e4 rest f x3 l 0 0
      have t2 := fun f x3 l => way_turn h e5 rest f x3 l 1 1
      have t3 := fun f x3 l => way_turn h e6 rest f x3 l 2 2
      simp only [↓ev_Seq, ↓ev_Asg, ↓ev_Lc, ↓ev_For, ↓ev_iR1, ↓ev_C, kR1_e, kLc_e, kLc2_e, kAsg_e, kFor_e, ↓ev_gN, kNx_e, ob_s, then_nx, Int.reduceLE, Int.reduceNeg, and_self, reduceIte, if_true, upto3, mapT_cons, mapT_nil, ↓ev_item, kIt1_e, kIt2_t, kSome_e, kMap_e, kMap2_e, ↓ev_Yes, ↓ev_L, kL_e, ↓ev_Cons, ↓ev_Nil, kCons_e, kCons2_e, ↓ev_V, vOf_e, wipeD, List.getElem?_cons_zero, List.getElem?_cons_succ, List.set_cons_zero, List.set_cons_succ, List.length_cons, List.length_nil, Nat.reduceAdd, Nat.reduceLeDiff, Option.toList_some, List.cons_append, List.nil_append, e1 rest hrest, e2 rest hrest, e3 rest hrest, L, List.append_assoc, List.length_append, runT_cons, runT_nil, turn_nx,
        t1 _ _ [_, _, _] rfl, t2 _ _ [_, _, _] rfl, t3 _ _ [_, _, _] rfl, set_a, set_b, set_c, f1, f2, f3]
    have z1 : ∀ (d : Ds) (rest : Mem) (ds : List D) (C : Mem), lstAt (k.M d ++ (rest ++ .lst ds :: C)) (k.B.length + rest.length) = some ds := fun d rest ds C => lstAt_of (new_at C (L d))
    have z2 : ∀ (d : Ds) (rest : Mem) (c : Cell) (ds : List D) (C : Mem), lstAt (k.M d ++ (rest ++ c :: .lst ds :: C)) (k.B.length + (rest.length + 1)) = some ds := fun d rest c ds C => lstAt_of (by
      have := new_at (A := k.M d) (B := rest ++ [c]) (c := .lst ds) C (L d)
      simpa using this)
    have z3 : ∀ (d : Ds) (rest : Mem) (c1 c2 c3 : Cell) (ds : List D) (C : Mem), lstAt (k.M d ++ (rest ++ c1 :: c2 :: c3 :: .lst ds :: C)) (k.B.length + (rest.length + 3)) = some ds := fun d rest c1 c2 c3 ds C => lstAt_of (by
      have := new_at (A := k.M d) (B := rest ++ [c1, c2, c3]) (c := .lst ds) C (L d)
      simpa using this)
    have z4 : ∀ (d : Ds) (rest : Mem) (c c' : Cell) (C : Mem), (k.M d ++ (rest ++ c :: C)).set (k.B.length + rest.length) c' = k.M d ++ (rest ++ c' :: C) := fun d rest c c' C => set_new (L d)
    have q1 : ∀ (d : Ds) (rest : Mem) (c : Cell), gEq (.rf (k.B.length + rest.length)) (.rf (k.B.length + (rest.length + 2))) (k.M d ++ (rest ++ [.lst [eF a1, eF a2, eF a3], c, .lst [eF 0, eF 0, eF 0]])) = some (.bl (decide (a1 = 0 ∧ a2 = 0 ∧ a3 = 0)), k.M d ++ (rest ++ [.lst [eF a1, eF a2, eF a3], c, .lst [eF 0, eF 0, eF 0]])) := fun d rest c => eq_three (new_at _ (L d)) (by
      have := new_at (A := k.M d) (B := rest ++ [.lst [eF a1, eF a2, eF a3], c]) (c := .lst [eF 0, eF 0, eF 0]) [] (L d)
      simpa using this)
    by_cases hz : a1 = 0 ∧ a2 = 0 ∧ a3 = 0
    · obtain ⟨w, d7, o7, w1, w2, e7⟩ := h.pk (b := b + 1) o6 (n := 3) (by decide) (by decide)
      obtain ⟨u, d8, o8, u1, u2, e8⟩ := h.pk (b := b) o7 (n := 3) (by decide) (by decide)
      obtain ⟨c, hc, rc, ec⟩ : ∃ c : Rat, c ≠ 0 ∧ Nb c ∧ atI [D.tup [.int 1, .int 1], D.tup [.int (-1), .int 1], D.tup [.int 2, .int 1]] w = some (eF c) := by
        have : w = 0 ∨ w = 1 ∨ w = 2 := by omega
        rcases this with rfl | rfl | rfl
        · exact ⟨1, by decide, nb_int (i := 1) (by decide), rfl⟩
        · exact ⟨-1, by decide, nb_int (i := -1) (by decide), rfl⟩
        · exact ⟨2, by decide, nb_int (i := 2) (by decide), rfl⟩
      obtain ⟨un, p, hu, hp, rp, np⟩ : ∃ (un : Nat) (p : P3), ixN 3 u = some un ∧ [eF a1, eF a2, eF a3].set un (eF c) = [eF p.x, eF p.y, eF p.z] ∧ p.N ∧ p.ne := by
        have : u = 0 ∨ u = 1 ∨ u = 2 := by omega
        rcases this with rfl | rfl | rfl
        · exact ⟨0, ⟨c, a2, a3⟩, rfl, rfl, ⟨rc, r2, r3⟩, fun z => hc z.1⟩
        · exact ⟨1, ⟨a1, c, a3⟩, rfl, rfl, ⟨r1, rc, r3⟩, fun z => hc z.2.1⟩
        · exact ⟨2, ⟨a1, a2, c⟩, rfl, rfl, ⟨r1, r2, rc⟩, fun z => hc z.2.2⟩
      refine ⟨p, d8, o8, rp, np, fun rest hrest => (front rest hrest _).mpr ?_⟩
      have hd : decide (a1 = 0 ∧ a2 = 0 ∧ a3 = 0) = true := decide_eq_true hz
      simp only [↓ev_V, ↓ev_C, ↓ev_O, ↓ev_U, ↓ev_Nil, ↓ev_Cons, ↓ev_L, ↓ev_If, ↓ev_tV, ↓ev_tTr, ↓ev_tAn, ↓ev_tOr, ↓ev_tNo, ↓ev_NotB, ↓ev_AnB, ↓ev_OrB, ↓ev_Tup, ↓ev_Lst, ↓ev_CP, ↓ev_ML, ↓ev_Sli, ↓ev_oN, ↓ev_oS, ↓ev_Ch, ↓ev_gN, ↓ev_gsNil, ↓ev_gsCons, ↓ev_gT, ↓ev_Seq, ↓ev_Asg, ↓ev_Par, ↓ev_Ret, ↓ev_Drop, ↓ev_sIf, ↓ev_Next, ↓ev_Brk, ↓ev_Cont, ↓ev_RetN, ↓ev_Sub, ↓ev_For, ↓ev_body, ↓ev_iE, ↓ev_iR1, ↓ev_iR2, ↓ev_iZ, ↓ev_iEn, ↓ev_item, ↓ev_Lc, ↓ev_Yes, ↓ev_Par3, ↓ev_As2, ↓ev_As4, ↓ev_CV, ↓ev_Fld, ↓ev_Mk, ↓ev_Mk0, ↓ev_Mt, ↓ev_ForM, ↓ev_bodyM, ↓ev_gTmT, ↓ev_gTmR, ↓ev_AsgM, ↓ev_Star, ↓ev_Dc, ↓ev_iRv, kForM_e, kAsgM_e, kSt1_e, kSt2_e, kSt3_e, seqT, seqRf, popRf, insRf, inE, notInE, kDc_e, kRv_e, revT, revL, vOf_e, kO_e, kO2_e, kU_e, kCons_e, kCons2_e, kL_e, kIf_t, kIf_f, kB_e, kTr_e, kTr2_e, kAn_t, kAn_f, kOr_t, kOr_f, kNo_e, kNotB_e, kAnB_t, kAnB_f, kOrB_t, kOrB_f, kTup_e, kLst_e, kCP_e, kD_e, kML_e, kML2_e, kS1_e, kS2_e, kS3_e, kI_e, kCh1_e, kCh2_e, kCh3_t, kCh3_f, kAsg_e, kNx_e, kRet_e, kDrop_e, kSif_t, kSif_f, kSub1_e, kSub2_e, kSub3_e, kNxM_e, kFor_e, kBody_e, kIE_e, kSrc_e, kR1_e, kR2_e, kR2b_e, kZ1_e, kZ2_e, kEn_e, kMap_e, kMap2_e, kIt1_e, kIt2_t, kIt2_f, kSome_e, kLc_e, kLc2_e, kGc_e, par3_e, kAs2_e, kAs3_e, kAs4_e, kAs5_e, kAs6_e, fnOf2_e, fnV_e, kCV_e, kFld1_e, kFld2_e, kMk_e, kMk2_e, kMt_e, kMt2_e, kMt3_e, gFldE, setFE, metE, insAt_zero, insAt_succ, ob_s, ob_n, then_nx, then_rt, then_bk, then_ct, par2_e, turn_nx, turn_ct, turn_bk, turn_rt, runT_nil, runT_cons, mapT_nil, mapT_cons, finP_nx, finM_rt, finM_nx, addE, subE, negE, cmpE, ixT, truI, truB, at0, at1, at2, at3, List.getElem?_cons_zero, List.getElem?_cons_succ, List.set_cons_zero, List.set_cons_succ, List.length_cons, List.length_nil, Nat.reduceAdd, Nat.reduceLeDiff, if_true, if_false, reduceIte, reduceCtorEq, id_eq, Bool.not_true, Bool.not_false, Bool.false_eq_true, and_self, Int.reduceLE, Int.reduceLT, Int.reduceNeg, decide_true, decide_false, Option.toList_some, Option.toList_none, List.cons_append, List.nil_append, ixRf, tupRf, lenRf, listRf, isLstRf, appRf, revRf, setRf, itemsRf, itemsT, itemsL, zipT, zipRf, allRf, anyRf, sumRf, tupT, slRf, isiE, t2E, lenT, lstAt_zero, lstAt_succ, Option.isSome_some, Nat.reduceLT, Bool.or_true, Bool.or_false, Bool.true_or, Bool.false_or, gIsN, gNotN, D.isNon, wipeD, eF0, repRf, List.append_nil, List.append_assoc, List.length_append, L, z1, z2, q1, hd, e7, e8, z3, ec, hu, hp, z4]
      rw [gc3 h hrest rfl]
      rfl
    · refine ⟨⟨a1, a2, a3⟩, d6, o6.mono (by omega), ⟨r1, r2, r3⟩, hz, fun rest hrest => (front rest hrest _).mpr ?_⟩
      have hd : decide (a1 = 0 ∧ a2 = 0 ∧ a3 = 0) = false := decide_eq_false hz
      simp only [↓ev_V, ↓ev_C, ↓ev_O, ↓ev_U, ↓ev_Nil, ↓ev_Cons, ↓ev_L, ↓ev_If, ↓ev_tV, ↓ev_tTr, ↓ev_tAn, ↓ev_tOr, ↓ev_tNo, ↓ev_NotB, ↓ev_AnB, ↓ev_OrB, ↓ev_Tup, ↓ev_Lst, ↓ev_CP, ↓ev_ML, ↓ev_Sli, ↓ev_oN, ↓ev_oS, ↓ev_Ch, ↓ev_gN, ↓ev_gsNil, ↓ev_gsCons, ↓ev_gT, ↓ev_Seq, ↓ev_Asg, ↓ev_Par, ↓ev_Ret, ↓ev_Drop, ↓ev_sIf, ↓ev_Next, ↓ev_Brk, ↓ev_Cont, ↓ev_RetN, ↓ev_Sub, ↓ev_For, ↓ev_body, ↓ev_iE, ↓ev_iR1, ↓ev_iR2, ↓ev_iZ, ↓ev_iEn, ↓ev_item, ↓ev_Lc, ↓ev_Yes, ↓ev_Par3, ↓ev_As2, ↓ev_As4, ↓ev_CV, ↓ev_Fld, ↓ev_Mk, ↓ev_Mk0, ↓ev_Mt, ↓ev_ForM, ↓ev_bodyM, ↓ev_gTmT, ↓ev_gTmR, ↓ev_AsgM, ↓ev_Star, ↓ev_Dc, ↓ev_iRv, kForM_e, kAsgM_e, kSt1_e, kSt2_e, kSt3_e, seqT, seqRf, popRf, insRf, inE, notInE, kDc_e, kRv_e, revT, revL, vOf_e, kO_e, kO2_e, kU_e, kCons_e, kCons2_e, kL_e, kIf_t, kIf_f, kB_e, kTr_e, kTr2_e, kAn_t, kAn_f, kOr_t, kOr_f, kNo_e, kNotB_e, kAnB_t, kAnB_f, kOrB_t, kOrB_f, kTup_e, kLst_e, kCP_e, kD_e, kML_e, kML2_e, kS1_e, kS2_e, kS3_e, kI_e, kCh1_e, kCh2_e, kCh3_t, kCh3_f, kAsg_e, kNx_e, kRet_e, kDrop_e, kSif_t, kSif_f, kSub1_e, kSub2_e, kSub3_e, kNxM_e, kFor_e, kBody_e, kIE_e, kSrc_e, kR1_e, kR2_e, kR2b_e, kZ1_e, kZ2_e, kEn_e, kMap_e, kMap2_e, kIt1_e, kIt2_t, kIt2_f, kSome_e, kLc_e, kLc2_e, kGc_e, par3_e, kAs2_e, kAs3_e, kAs4_e, kAs5_e, kAs6_e, fnOf2_e, fnV_e, kCV_e, kFld1_e, kFld2_e, kMk_e, kMk2_e, kMt_e, kMt2_e, kMt3_e, gFldE, setFE, metE, insAt_zero, insAt_succ, ob_s, ob_n, then_nx, then_rt, then_bk, then_ct, par2_e, turn_nx, turn_ct, turn_bk, turn_rt, runT_nil, runT_cons, mapT_nil, mapT_cons, finP_nx, finM_rt, finM_nx, addE, subE, negE, cmpE, ixT, truI, truB, at0, at1, at2, at3, List.getElem?_cons_zero, List.getElem?_cons_succ, List.set_cons_zero, List.set_cons_succ, List.length_cons, List.length_nil, Nat.reduceAdd, Nat.reduceLeDiff, if_true, if_false, reduceIte, reduceCtorEq, id_eq, Bool.not_true, Bool.not_false, Bool.false_eq_true, and_self, Int.reduceLE, Int.reduceLT, Int.reduceNeg, decide_true, decide_false, Option.toList_some, Option.toList_none, List.cons_append, List.nil_append, ixRf, tupRf, lenRf, listRf, isLstRf, appRf, revRf, setRf, itemsRf, itemsT, itemsL, zipT, zipRf, allRf, anyRf, sumRf, tupT, slRf, isiE, t2E, lenT, lstAt_zero, lstAt_succ, Option.isSome_some, Nat.reduceLT, Bool.or_true, Bool.or_false, Bool.true_or, Bool.false_or, gIsN, gNotN, D.isNon, wipeD, eF0, repRf, List.append_nil, List.append_assoc, List.length_append, L, z1, z2, q1, hd]
      rw [gc3 h hrest rfl]
      rfl
  exact key (if v1 = 0 then 0 else q1) (if v2 = 0 then 0 else q2) (if v3 = 0 then 0 else q3) (by split <;> assumption) (by split <;> assumption) (by split <;> assumption) rfl rfl rfl
theorem num_e {k : Dk6} (h : k.Ok) {b : Nat} {d : Ds} (hd : d.O3 (b + 2)) {far : Int} (h1 : 0 < far) (h2 : far < 7) : ∃ q d', d'.O3 b ∧ Rb 5 q ∧ ∀ rest, rest.all (Cell.lo 0) = true → m__law_num [.rf k.s, .int far] (k.M d ++ rest) = some (eF q, k.M d' ++ rest) := by
  obtain ⟨q, d', o, n, e⟩ := num_f h hd h1 h2
  exact ⟨q, d', o, n.1, e⟩
theorem point_e {k : Dk6} (h : k.Ok) {b : Nat} {d : Ds} (hd : d.O3 (b + 6)) {far : Int} (h1 : 0 < far) (h2 : far < 7) : ∃ p d', d'.O3 b ∧ P3.B 5 p ∧ ∀ rest, rest.all (Cell.lo 0) = true → m__law_point [.rf k.s, .int far] (k.M d ++ rest) = some (eP p, k.M d' ++ rest) := by
  obtain ⟨q, d', o, n, e⟩ := point_f h hd h1 h2
  exact ⟨q, d', o, n.b, e⟩
theorem way_e {k : Dk6} (h : k.Ok) {b : Nat} {d : Ds} (hd : d.O3 (b + 11)) {far : Int} (h1 : 0 < far) (h2 : far < 7) : ∃ p d', d'.O3 b ∧ P3.B 5 p ∧ p.ne ∧ ∀ rest, rest.all (Cell.lo 0) = true → m__law_way [.rf k.s, .int far] (k.M d ++ rest) = some (eP p, k.M d' ++ rest) := by
  obtain ⟨q, d', o, n, ne, e⟩ := way_f h hd h1 h2
  exact ⟨q, d', o, n.b, ne, e⟩

/-! ### the program's signs, quotients, dots, turns -/
theorem sign_e (q : Rat) : m_sign [eF q] = some (.int (if q < 0 then -1 else if 0 < q then 1 else 0)) := by
  rw [e_sign _ rfl]
  unfold b_sign
  have z1 : q.num < 0 ↔ q < 0 := by
    rw [Rat.lt_iff]
    simp
  have z2 : 0 < q.num ↔ 0 < q := by
    rw [Rat.lt_iff]
    simp
  by_cases h1 : q < 0
  · simp only [↓ev_V, ↓ev_C, ↓ev_O, ↓ev_U, ↓ev_Nil, ↓ev_Cons, ↓ev_L, ↓ev_If, ↓ev_tV, ↓ev_tTr, ↓ev_tAn, ↓ev_tOr, ↓ev_tNo, ↓ev_NotB, ↓ev_AnB, ↓ev_OrB, ↓ev_Tup, ↓ev_Lst, ↓ev_CP, ↓ev_ML, ↓ev_Sli, ↓ev_oN, ↓ev_oS, ↓ev_Ch, ↓ev_gN, ↓ev_gsNil, ↓ev_gsCons, ↓ev_gT, ↓ev_Seq, ↓ev_Asg, ↓ev_Par, ↓ev_Ret, ↓ev_Drop, ↓ev_sIf, ↓ev_Next, ↓ev_Brk, ↓ev_Cont, ↓ev_RetN, ↓ev_Sub, ↓ev_For, ↓ev_body, ↓ev_iE, ↓ev_iR1, ↓ev_iR2, ↓ev_iZ, ↓ev_iEn, ↓ev_item, ↓ev_Lc, ↓ev_Yes, ↓ev_Par3, ↓ev_As2, ↓ev_As4, ↓ev_CV, ↓ev_Fld, ↓ev_Mk, ↓ev_Mk0, ↓ev_Mt, ↓ev_ForM, ↓ev_bodyM, ↓ev_gTmT, ↓ev_gTmR, ↓ev_AsgM, ↓ev_Star, ↓ev_Dc, ↓ev_iRv, kForM_e, kAsgM_e, kSt1_e, kSt2_e, kSt3_e, seqT, seqRf, popRf, insRf, inE, notInE, kDc_e, kRv_e, revT, revL, vOf_e, kO_e, kO2_e, kU_e, kCons_e, kCons2_e, kL_e, kIf_t, kIf_f, kB_e, kTr_e, kTr2_e, kAn_t, kAn_f, kOr_t, kOr_f, kNo_e, kNotB_e, kAnB_t, kAnB_f, kOrB_t, kOrB_f, kTup_e, kLst_e, kCP_e, kD_e, kML_e, kML2_e, kS1_e, kS2_e, kS3_e, kI_e, kCh1_e, kCh2_e, kCh3_t, kCh3_f, kAsg_e, kNx_e, kRet_e, kDrop_e, kSif_t, kSif_f, kSub1_e, kSub2_e, kSub3_e, kNxM_e, kFor_e, kBody_e, kIE_e, kSrc_e, kR1_e, kR2_e, kR2b_e, kZ1_e, kZ2_e, kEn_e, kMap_e, kMap2_e, kIt1_e, kIt2_t, kIt2_f, kSome_e, kLc_e, kLc2_e, kGc_e, par3_e, kAs2_e, kAs3_e, kAs4_e, kAs5_e, kAs6_e, fnOf2_e, fnV_e, kCV_e, kFld1_e, kFld2_e, kMk_e, kMk2_e, kMt_e, kMt2_e, kMt3_e, gFldE, setFE, metE, insAt_zero, insAt_succ, ob_s, ob_n, then_nx, then_rt, then_bk, then_ct, par2_e, turn_nx, turn_ct, turn_bk, turn_rt, runT_nil, runT_cons, mapT_nil, mapT_cons, finP_nx, finM_rt, finM_nx, addE, subE, negE, cmpE, ixT, truI, truB, at0, at1, at2, at3, List.getElem?_cons_zero, List.getElem?_cons_succ, List.set_cons_zero, List.set_cons_succ, List.length_cons, List.length_nil, Nat.reduceAdd, Nat.reduceLeDiff, if_true, if_false, reduceIte, reduceCtorEq, id_eq, Bool.not_true, Bool.not_false, Bool.false_eq_true, and_self, Int.reduceLE, Int.reduceLT, Int.reduceNeg, decide_true, decide_false, Option.toList_some, Option.toList_none, List.cons_append, List.nil_append, ixRf, tupRf, lenRf, listRf, isLstRf, appRf, revRf, setRf, itemsRf, itemsT, itemsL, zipT, zipRf, allRf, anyRf, sumRf, tupT, slRf, isiE, t2E, lenT, lstAt_zero, lstAt_succ, Option.isSome_some, Nat.reduceLT, Bool.or_true, Bool.or_false, Bool.true_or, Bool.false_or, gIsN, gNotN, D.isNon, wipeD, ix_eF0, z1, h1, Int.reduceNeg]
    exact finP_rt _ _ rfl
  · by_cases h2 : 0 < q
    · simp only [↓ev_V, ↓ev_C, ↓ev_O, ↓ev_U, ↓ev_Nil, ↓ev_Cons, ↓ev_L, ↓ev_If, ↓ev_tV, ↓ev_tTr, ↓ev_tAn, ↓ev_tOr, ↓ev_tNo, ↓ev_NotB, ↓ev_AnB, ↓ev_OrB, ↓ev_Tup, ↓ev_Lst, ↓ev_CP, ↓ev_ML, ↓ev_Sli, ↓ev_oN, ↓ev_oS, ↓ev_Ch, ↓ev_gN, ↓ev_gsNil, ↓ev_gsCons, ↓ev_gT, ↓ev_Seq, ↓ev_Asg, ↓ev_Par, ↓ev_Ret, ↓ev_Drop, ↓ev_sIf, ↓ev_Next, ↓ev_Brk, ↓ev_Cont, ↓ev_RetN, ↓ev_Sub, ↓ev_For, ↓ev_body, ↓ev_iE, ↓ev_iR1, ↓ev_iR2, ↓ev_iZ, ↓ev_iEn, ↓ev_item, ↓ev_Lc, ↓ev_Yes, ↓ev_Par3, ↓ev_As2, ↓ev_As4, ↓ev_CV, ↓ev_Fld, ↓ev_Mk, ↓ev_Mk0, ↓ev_Mt, ↓ev_ForM, ↓ev_bodyM, ↓ev_gTmT, ↓ev_gTmR, ↓ev_AsgM, ↓ev_Star, ↓ev_Dc, ↓ev_iRv, kForM_e, kAsgM_e, kSt1_e, kSt2_e, kSt3_e, seqT, seqRf, popRf, insRf, inE, notInE, kDc_e, kRv_e, revT, revL, vOf_e, kO_e, kO2_e, kU_e, kCons_e, kCons2_e, kL_e, kIf_t, kIf_f, kB_e, kTr_e, kTr2_e, kAn_t, kAn_f, kOr_t, kOr_f, kNo_e, kNotB_e, kAnB_t, kAnB_f, kOrB_t, kOrB_f, kTup_e, kLst_e, kCP_e, kD_e, kML_e, kML2_e, kS1_e, kS2_e, kS3_e, kI_e, kCh1_e, kCh2_e, kCh3_t, kCh3_f, kAsg_e, kNx_e, kRet_e, kDrop_e, kSif_t, kSif_f, kSub1_e, kSub2_e, kSub3_e, kNxM_e, kFor_e, kBody_e, kIE_e, kSrc_e, kR1_e, kR2_e, kR2b_e, kZ1_e, kZ2_e, kEn_e, kMap_e, kMap2_e, kIt1_e, kIt2_t, kIt2_f, kSome_e, kLc_e, kLc2_e, kGc_e, par3_e, kAs2_e, kAs3_e, kAs4_e, kAs5_e, kAs6_e, fnOf2_e, fnV_e, kCV_e, kFld1_e, kFld2_e, kMk_e, kMk2_e, kMt_e, kMt2_e, kMt3_e, gFldE, setFE, metE, insAt_zero, insAt_succ, ob_s, ob_n, then_nx, then_rt, then_bk, then_ct, par2_e, turn_nx, turn_ct, turn_bk, turn_rt, runT_nil, runT_cons, mapT_nil, mapT_cons, finP_nx, finM_rt, finM_nx, addE, subE, negE, cmpE, ixT, truI, truB, at0, at1, at2, at3, List.getElem?_cons_zero, List.getElem?_cons_succ, List.set_cons_zero, List.set_cons_succ, List.length_cons, List.length_nil, Nat.reduceAdd, Nat.reduceLeDiff, if_true, if_false, reduceIte, reduceCtorEq, id_eq, Bool.not_true, Bool.not_false, Bool.false_eq_true, and_self, Int.reduceLE, Int.reduceLT, Int.reduceNeg, decide_true, decide_false, Option.toList_some, Option.toList_none, List.cons_append, List.nil_append, ixRf, tupRf, lenRf, listRf, isLstRf, appRf, revRf, setRf, itemsRf, itemsT, itemsL, zipT, zipRf, allRf, anyRf, sumRf, tupT, slRf, isiE, t2E, lenT, lstAt_zero, lstAt_succ, Option.isSome_some, Nat.reduceLT, Bool.or_true, Bool.or_false, Bool.true_or, Bool.false_or, gIsN, gNotN, D.isNon, wipeD, ix_eF0, z1, h1, z2, h2]
      exact finP_rt _ _ rfl
    · simp only [↓ev_V, ↓ev_C, ↓ev_O, ↓ev_U, ↓ev_Nil, ↓ev_Cons, ↓ev_L, ↓ev_If, ↓ev_tV, ↓ev_tTr, ↓ev_tAn, ↓ev_tOr, ↓ev_tNo, ↓ev_NotB, ↓ev_AnB, ↓ev_OrB, ↓ev_Tup, ↓ev_Lst, ↓ev_CP, ↓ev_ML, ↓ev_Sli, ↓ev_oN, ↓ev_oS, ↓ev_Ch, ↓ev_gN, ↓ev_gsNil, ↓ev_gsCons, ↓ev_gT, ↓ev_Seq, ↓ev_Asg, ↓ev_Par, ↓ev_Ret, ↓ev_Drop, ↓ev_sIf, ↓ev_Next, ↓ev_Brk, ↓ev_Cont, ↓ev_RetN, ↓ev_Sub, ↓ev_For, ↓ev_body, ↓ev_iE, ↓ev_iR1, ↓ev_iR2, ↓ev_iZ, ↓ev_iEn, ↓ev_item, ↓ev_Lc, ↓ev_Yes, ↓ev_Par3, ↓ev_As2, ↓ev_As4, ↓ev_CV, ↓ev_Fld, ↓ev_Mk, ↓ev_Mk0, ↓ev_Mt, ↓ev_ForM, ↓ev_bodyM, ↓ev_gTmT, ↓ev_gTmR, ↓ev_AsgM, ↓ev_Star, ↓ev_Dc, ↓ev_iRv, kForM_e, kAsgM_e, kSt1_e, kSt2_e, kSt3_e, seqT, seqRf, popRf, insRf, inE, notInE, kDc_e, kRv_e, revT, revL, vOf_e, kO_e, kO2_e, kU_e, kCons_e, kCons2_e, kL_e, kIf_t, kIf_f, kB_e, kTr_e, kTr2_e, kAn_t, kAn_f, kOr_t, kOr_f, kNo_e, kNotB_e, kAnB_t, kAnB_f, kOrB_t, kOrB_f, kTup_e, kLst_e, kCP_e, kD_e, kML_e, kML2_e, kS1_e, kS2_e, kS3_e, kI_e, kCh1_e, kCh2_e, kCh3_t, kCh3_f, kAsg_e, kNx_e, kRet_e, kDrop_e, kSif_t, kSif_f, kSub1_e, kSub2_e, kSub3_e, kNxM_e, kFor_e, kBody_e, kIE_e, kSrc_e, kR1_e, kR2_e, kR2b_e, kZ1_e, kZ2_e, kEn_e, kMap_e, kMap2_e, kIt1_e, kIt2_t, kIt2_f, kSome_e, kLc_e, kLc2_e, kGc_e, par3_e, kAs2_e, kAs3_e, kAs4_e, kAs5_e, kAs6_e, fnOf2_e, fnV_e, kCV_e, kFld1_e, kFld2_e, kMk_e, kMk2_e, kMt_e, kMt2_e, kMt3_e, gFldE, setFE, metE, insAt_zero, insAt_succ, ob_s, ob_n, then_nx, then_rt, then_bk, then_ct, par2_e, turn_nx, turn_ct, turn_bk, turn_rt, runT_nil, runT_cons, mapT_nil, mapT_cons, finP_nx, finM_rt, finM_nx, addE, subE, negE, cmpE, ixT, truI, truB, at0, at1, at2, at3, List.getElem?_cons_zero, List.getElem?_cons_succ, List.set_cons_zero, List.set_cons_succ, List.length_cons, List.length_nil, Nat.reduceAdd, Nat.reduceLeDiff, if_true, if_false, reduceIte, reduceCtorEq, id_eq, Bool.not_true, Bool.not_false, Bool.false_eq_true, and_self, Int.reduceLE, Int.reduceLT, Int.reduceNeg, decide_true, decide_false, Option.toList_some, Option.toList_none, List.cons_append, List.nil_append, ixRf, tupRf, lenRf, listRf, isLstRf, appRf, revRf, setRf, itemsRf, itemsT, itemsL, zipT, zipRf, allRf, anyRf, sumRf, tupT, slRf, isiE, t2E, lenT, lstAt_zero, lstAt_succ, Option.isSome_some, Nat.reduceLT, Bool.or_true, Bool.or_false, Bool.true_or, Bool.false_or, gIsN, gNotN, D.isNon, wipeD, ix_eF0, z1, h1, z2, h2]
      exact finP_rt _ _ rfl
theorem over_e {m n : Nat} {q r : Rat} (hq : Rb m q) (hr : Rb n r) (h : m + n ≤ 9000) (hz : r ≠ 0) : m_over [eF q, eF r] = some (eF (q / r)) := by
  obtain ⟨h1, _, _, _, h3, _, h4⟩ := two_rb hq hr h
  rw [e_over _ _ rfl]
  unfold b_over
  simp only [↓ev_V, ↓ev_C, ↓ev_O, ↓ev_U, ↓ev_Nil, ↓ev_Cons, ↓ev_L, ↓ev_If, ↓ev_tV, ↓ev_tTr, ↓ev_tAn, ↓ev_tOr, ↓ev_tNo, ↓ev_NotB, ↓ev_AnB, ↓ev_OrB, ↓ev_Tup, ↓ev_Lst, ↓ev_CP, ↓ev_ML, ↓ev_Sli, ↓ev_oN, ↓ev_oS, ↓ev_Ch, ↓ev_gN, ↓ev_gsNil, ↓ev_gsCons, ↓ev_gT, ↓ev_Seq, ↓ev_Asg, ↓ev_Par, ↓ev_Ret, ↓ev_Drop, ↓ev_sIf, ↓ev_Next, ↓ev_Brk, ↓ev_Cont, ↓ev_RetN, ↓ev_Sub, ↓ev_For, ↓ev_body, ↓ev_iE, ↓ev_iR1, ↓ev_iR2, ↓ev_iZ, ↓ev_iEn, ↓ev_item, ↓ev_Lc, ↓ev_Yes, ↓ev_Par3, ↓ev_As2, ↓ev_As4, ↓ev_CV, ↓ev_Fld, ↓ev_Mk, ↓ev_Mk0, ↓ev_Mt, ↓ev_ForM, ↓ev_bodyM, ↓ev_gTmT, ↓ev_gTmR, ↓ev_AsgM, ↓ev_Star, ↓ev_Dc, ↓ev_iRv, kForM_e, kAsgM_e, kSt1_e, kSt2_e, kSt3_e, seqT, seqRf, popRf, insRf, inE, notInE, kDc_e, kRv_e, revT, revL, vOf_e, kO_e, kO2_e, kU_e, kCons_e, kCons2_e, kL_e, kIf_t, kIf_f, kB_e, kTr_e, kTr2_e, kAn_t, kAn_f, kOr_t, kOr_f, kNo_e, kNotB_e, kAnB_t, kAnB_f, kOrB_t, kOrB_f, kTup_e, kLst_e, kCP_e, kD_e, kML_e, kML2_e, kS1_e, kS2_e, kS3_e, kI_e, kCh1_e, kCh2_e, kCh3_t, kCh3_f, kAsg_e, kNx_e, kRet_e, kDrop_e, kSif_t, kSif_f, kSub1_e, kSub2_e, kSub3_e, kNxM_e, kFor_e, kBody_e, kIE_e, kSrc_e, kR1_e, kR2_e, kR2b_e, kZ1_e, kZ2_e, kEn_e, kMap_e, kMap2_e, kIt1_e, kIt2_t, kIt2_f, kSome_e, kLc_e, kLc2_e, kGc_e, par3_e, kAs2_e, kAs3_e, kAs4_e, kAs5_e, kAs6_e, fnOf2_e, fnV_e, kCV_e, kFld1_e, kFld2_e, kMk_e, kMk2_e, kMt_e, kMt2_e, kMt3_e, gFldE, setFE, metE, insAt_zero, insAt_succ, ob_s, ob_n, then_nx, then_rt, then_bk, then_ct, par2_e, turn_nx, turn_ct, turn_bk, turn_rt, runT_nil, runT_cons, mapT_nil, mapT_cons, finP_nx, finM_rt, finM_nx, addE, subE, negE, cmpE, ixT, truI, truB, at0, at1, at2, at3, List.getElem?_cons_zero, List.getElem?_cons_succ, List.set_cons_zero, List.set_cons_succ, List.length_cons, List.length_nil, Nat.reduceAdd, Nat.reduceLeDiff, if_true, if_false, reduceIte, reduceCtorEq, id_eq, Bool.not_true, Bool.not_false, Bool.false_eq_true, and_self, Int.reduceLE, Int.reduceLT, Int.reduceNeg, decide_true, decide_false, Option.toList_some, Option.toList_none, List.cons_append, List.nil_append, ixRf, tupRf, lenRf, listRf, isLstRf, appRf, revRf, setRf, itemsRf, itemsT, itemsL, zipT, zipRf, allRf, anyRf, sumRf, tupT, slRf, isiE, t2E, lenT, lstAt_zero, lstAt_succ, Option.isSome_some, Nat.reduceLT, Bool.or_true, Bool.or_false, Bool.true_or, Bool.false_or, gIsN, gNotN, D.isNon, wipeD, ix_eF0, ix_eF1, mulE h1, mulE h3, frac_e (Int.mul_ne_zero (den_ne q) (num_ne hz)) h4, rat_quot]
  exact finP_rt _ _ (lo_eF 0 _)
theorem dot_turn {a b : Int} {q r S : Rat} (hb : b ≠ 0) (e : Rat.divInt a b = S) :
    Rat.divInt (a * ((q.den : Int) * (r.den : Int)) + q.num * r.num * b) (b * ((q.den : Int) * (r.den : Int))) = S + q * r := by
  rw [← e, ← rat_prod q r, Rat.divInt_add_divInt _ _ hb (Int.mul_ne_zero (den_ne q) (den_ne r))]
theorem dot_e {m n : Nat} {p q : P3} (hp : p.B m) (hq : q.B n) (h : m + n ≤ 1000) : m_dot [eP p, eP q] = some (eF (p.dot q)) := by
  have g : ∀ {x : Rat} {n : Nat}, Rb n x → n ≤ 1000 → Bg 10 x.num ∧ Bg 10 (x.den : Int) := fun h hn => rb_bg h (by omega) (by decide)
  obtain ⟨_, _⟩ := g hp.1 (by omega)
  obtain ⟨_, _⟩ := g hp.2.1 (by omega)
  obtain ⟨_, _⟩ := g hp.2.2 (by omega)
  obtain ⟨_, _⟩ := g hq.1 (by omega)
  obtain ⟨_, _⟩ := g hq.2.1 (by omega)
  obtain ⟨_, _⟩ := g hq.2.2 (by omega)
  have nz : (1 : Int) * ((p.x.den : Int) * (q.x.den : Int)) * ((p.y.den : Int) * (q.y.den : Int)) * ((p.z.den : Int) * (q.z.den : Int)) ≠ 0 :=
    Int.mul_ne_zero (Int.mul_ne_zero (Int.mul_ne_zero (by decide) (Int.mul_ne_zero (den_ne _) (den_ne _))) (Int.mul_ne_zero (den_ne _) (den_ne _))) (Int.mul_ne_zero (den_ne _) (den_ne _))
  have sz : Bt 9000 ((1 : Int) * ((p.x.den : Int) * (q.x.den : Int)) * ((p.y.den : Int) * (q.y.den : Int)) * ((p.z.den : Int) * (q.z.den : Int))) := by
    have b0 : Bt 1 (1 : Int) := by unfold Bt; decide
    exact (((b0.mul (hp.1.2.mul hq.1.2)).mul (hp.2.1.2.mul hq.2.1.2)).mul (hp.2.2.2.mul hq.2.2.2)).mono (by omega)
  have f := fun a => frac_e (a := a) nz sz
  have d1 := dot_turn (a := 0) (b := 1) (q := p.x) (r := q.x) (S := 0) (by decide) rfl
  have d2 := dot_turn (q := p.y) (r := q.y) (Int.mul_ne_zero (by decide) (Int.mul_ne_zero (den_ne _) (den_ne _))) d1
  have d3 := dot_turn (q := p.z) (r := q.z) (Int.mul_ne_zero (Int.mul_ne_zero (by decide) (Int.mul_ne_zero (den_ne _) (den_ne _))) (Int.mul_ne_zero (den_ne _) (den_ne _))) d2
  have e0 : (0 : Rat) + p.x * q.x + p.y * q.y + p.z * q.z = p.dot q := by
    rw [Rat.zero_add]
    rfl
  rw [e0] at d3
  rw [e_dot _ _ rfl]
  unfold b_dot
  simp only [↓ev_V, ↓ev_C, ↓ev_O, ↓ev_U, ↓ev_Nil, ↓ev_Cons, ↓ev_L, ↓ev_If, ↓ev_tV, ↓ev_tTr, ↓ev_tAn, ↓ev_tOr, ↓ev_tNo, ↓ev_NotB, ↓ev_AnB, ↓ev_OrB, ↓ev_Tup, ↓ev_Lst, ↓ev_CP, ↓ev_ML, ↓ev_Sli, ↓ev_oN, ↓ev_oS, ↓ev_Ch, ↓ev_gN, ↓ev_gsNil, ↓ev_gsCons, ↓ev_gT, ↓ev_Seq, ↓ev_Asg, ↓ev_Par, ↓ev_Ret, ↓ev_Drop, ↓ev_sIf, ↓ev_Next, ↓ev_Brk, ↓ev_Cont, ↓ev_RetN, ↓ev_Sub, ↓ev_For, ↓ev_body, ↓ev_iE, ↓ev_iR1, ↓ev_iR2, ↓ev_iZ, ↓ev_iEn, ↓ev_item, ↓ev_Lc, ↓ev_Yes, ↓ev_Par3, ↓ev_As2, ↓ev_As4, ↓ev_CV, ↓ev_Fld, ↓ev_Mk, ↓ev_Mk0, ↓ev_Mt, ↓ev_ForM, ↓ev_bodyM, ↓ev_gTmT, ↓ev_gTmR, ↓ev_AsgM, ↓ev_Star, ↓ev_Dc, ↓ev_iRv, kForM_e, kAsgM_e, kSt1_e, kSt2_e, kSt3_e, seqT, seqRf, popRf, insRf, inE, notInE, kDc_e, kRv_e, revT, revL, vOf_e, kO_e, kO2_e, kU_e, kCons_e, kCons2_e, kL_e, kIf_t, kIf_f, kB_e, kTr_e, kTr2_e, kAn_t, kAn_f, kOr_t, kOr_f, kNo_e, kNotB_e, kAnB_t, kAnB_f, kOrB_t, kOrB_f, kTup_e, kLst_e, kCP_e, kD_e, kML_e, kML2_e, kS1_e, kS2_e, kS3_e, kI_e, kCh1_e, kCh2_e, kCh3_t, kCh3_f, kAsg_e, kNx_e, kRet_e, kDrop_e, kSif_t, kSif_f, kSub1_e, kSub2_e, kSub3_e, kNxM_e, kFor_e, kBody_e, kIE_e, kSrc_e, kR1_e, kR2_e, kR2b_e, kZ1_e, kZ2_e, kEn_e, kMap_e, kMap2_e, kIt1_e, kIt2_t, kIt2_f, kSome_e, kLc_e, kLc2_e, kGc_e, par3_e, kAs2_e, kAs3_e, kAs4_e, kAs5_e, kAs6_e, fnOf2_e, fnV_e, kCV_e, kFld1_e, kFld2_e, kMk_e, kMk2_e, kMt_e, kMt2_e, kMt3_e, gFldE, setFE, metE, insAt_zero, insAt_succ, ob_s, ob_n, then_nx, then_rt, then_bk, then_ct, par2_e, turn_nx, turn_ct, turn_bk, turn_rt, runT_nil, runT_cons, mapT_nil, mapT_cons, finP_nx, finM_rt, finM_nx, addE, subE, negE, cmpE, ixT, truI, truB, at0, at1, at2, at3, List.getElem?_cons_zero, List.getElem?_cons_succ, List.set_cons_zero, List.set_cons_succ, List.length_cons, List.length_nil, Nat.reduceAdd, Nat.reduceLeDiff, if_true, if_false, reduceIte, reduceCtorEq, id_eq, Bool.not_true, Bool.not_false, Bool.false_eq_true, and_self, Int.reduceLE, Int.reduceLT, Int.reduceNeg, decide_true, decide_false, Option.toList_some, Option.toList_none, List.cons_append, List.nil_append, ixRf, tupRf, lenRf, listRf, isLstRf, appRf, revRf, setRf, itemsRf, itemsT, itemsL, zipT, zipRf, allRf, anyRf, sumRf, tupT, slRf, isiE, t2E, lenT, lstAt_zero, lstAt_succ, Option.isSome_some, Nat.reduceLT, Bool.or_true, Bool.or_false, Bool.true_or, Bool.false_or, gIsN, gNotN, D.isNon, wipeD, zipP, ix_eF0, ix_eF1, mulT, f, d3]
  exact finP_rt _ _ (lo_eF 0 _)
theorem Rb.dot {m n : Nat} {p q : P3} (hp : p.B m) (hq : q.B n) : Rb (3 * (m + n) + 2) (p.dot q) := (((hp.1.mul hq.1).add (hp.2.1.mul hq.2.1)).add (hp.2.2.mul hq.2.2)).mono (by omega)
structure T3 where
  a : P3
  b : P3
  c : P3
def eT (t : T3) : D := .tup [eP t.a, eP t.b, eP t.c]
def T3.B (n : Nat) (t : T3) : Prop := t.a.B n ∧ t.b.B n ∧ t.c.B n
def T3.app (t : T3) (p : P3) : P3 := ⟨t.a.dot p, t.b.dot p, t.c.dot p⟩
theorem ix_eT0 (t : T3) (M : Mem) : gIx (eT t) (.int 0) M = some (eP t.a, M) := rfl
theorem ix_eT1 (t : T3) (M : Mem) : gIx (eT t) (.int 1) M = some (eP t.b, M) := rfl
theorem ix_eT2 (t : T3) (M : Mem) : gIx (eT t) (.int 2) M = some (eP t.c, M) := rfl
theorem turned_e {m n : Nat} {t : T3} {p : P3} (ht : t.B m) (hp : p.B n) (h : m + n ≤ 1000) : m_turned [eT t, eP p] = some (eP (t.app p)) := by
  rw [e_turned _ _ rfl]
  unfold b_turned
  simp only [↓ev_V, ↓ev_C, ↓ev_O, ↓ev_U, ↓ev_Nil, ↓ev_Cons, ↓ev_L, ↓ev_If, ↓ev_tV, ↓ev_tTr, ↓ev_tAn, ↓ev_tOr, ↓ev_tNo, ↓ev_NotB, ↓ev_AnB, ↓ev_OrB, ↓ev_Tup, ↓ev_Lst, ↓ev_CP, ↓ev_ML, ↓ev_Sli, ↓ev_oN, ↓ev_oS, ↓ev_Ch, ↓ev_gN, ↓ev_gsNil, ↓ev_gsCons, ↓ev_gT, ↓ev_Seq, ↓ev_Asg, ↓ev_Par, ↓ev_Ret, ↓ev_Drop, ↓ev_sIf, ↓ev_Next, ↓ev_Brk, ↓ev_Cont, ↓ev_RetN, ↓ev_Sub, ↓ev_For, ↓ev_body, ↓ev_iE, ↓ev_iR1, ↓ev_iR2, ↓ev_iZ, ↓ev_iEn, ↓ev_item, ↓ev_Lc, ↓ev_Yes, ↓ev_Par3, ↓ev_As2, ↓ev_As4, ↓ev_CV, ↓ev_Fld, ↓ev_Mk, ↓ev_Mk0, ↓ev_Mt, ↓ev_ForM, ↓ev_bodyM, ↓ev_gTmT, ↓ev_gTmR, ↓ev_AsgM, ↓ev_Star, ↓ev_Dc, ↓ev_iRv, kForM_e, kAsgM_e, kSt1_e, kSt2_e, kSt3_e, seqT, seqRf, popRf, insRf, inE, notInE, kDc_e, kRv_e, revT, revL, vOf_e, kO_e, kO2_e, kU_e, kCons_e, kCons2_e, kL_e, kIf_t, kIf_f, kB_e, kTr_e, kTr2_e, kAn_t, kAn_f, kOr_t, kOr_f, kNo_e, kNotB_e, kAnB_t, kAnB_f, kOrB_t, kOrB_f, kTup_e, kLst_e, kCP_e, kD_e, kML_e, kML2_e, kS1_e, kS2_e, kS3_e, kI_e, kCh1_e, kCh2_e, kCh3_t, kCh3_f, kAsg_e, kNx_e, kRet_e, kDrop_e, kSif_t, kSif_f, kSub1_e, kSub2_e, kSub3_e, kNxM_e, kFor_e, kBody_e, kIE_e, kSrc_e, kR1_e, kR2_e, kR2b_e, kZ1_e, kZ2_e, kEn_e, kMap_e, kMap2_e, kIt1_e, kIt2_t, kIt2_f, kSome_e, kLc_e, kLc2_e, kGc_e, par3_e, kAs2_e, kAs3_e, kAs4_e, kAs5_e, kAs6_e, fnOf2_e, fnV_e, kCV_e, kFld1_e, kFld2_e, kMk_e, kMk2_e, kMt_e, kMt2_e, kMt3_e, gFldE, setFE, metE, insAt_zero, insAt_succ, ob_s, ob_n, then_nx, then_rt, then_bk, then_ct, par2_e, turn_nx, turn_ct, turn_bk, turn_rt, runT_nil, runT_cons, mapT_nil, mapT_cons, finP_nx, finM_rt, finM_nx, addE, subE, negE, cmpE, ixT, truI, truB, at0, at1, at2, at3, List.getElem?_cons_zero, List.getElem?_cons_succ, List.set_cons_zero, List.set_cons_succ, List.length_cons, List.length_nil, Nat.reduceAdd, Nat.reduceLeDiff, if_true, if_false, reduceIte, reduceCtorEq, id_eq, Bool.not_true, Bool.not_false, Bool.false_eq_true, and_self, Int.reduceLE, Int.reduceLT, Int.reduceNeg, decide_true, decide_false, Option.toList_some, Option.toList_none, List.cons_append, List.nil_append, ixRf, tupRf, lenRf, listRf, isLstRf, appRf, revRf, setRf, itemsRf, itemsT, itemsL, zipT, zipRf, allRf, anyRf, sumRf, tupT, slRf, isiE, t2E, lenT, lstAt_zero, lstAt_succ, Option.isSome_some, Nat.reduceLT, Bool.or_true, Bool.or_false, Bool.true_or, Bool.false_or, gIsN, gNotN, D.isNon, wipeD, ix_eT0, ix_eT1, ix_eT2, dot_e ht.1 hp h, dot_e ht.2.1 hp h, dot_e ht.2.2 hp h]
  exact finP_rt _ _ (lo_eP 0 (t.app p))
theorem T3.B.app {m n : Nat} {t : T3} {p : P3} (ht : t.B m) (hp : p.B n) : (t.app p).B (3 * (m + n) + 2) := ⟨Rb.dot ht.1 hp, Rb.dot ht.2.1 hp, Rb.dot ht.2.2 hp⟩

/-! ### the third family's own sameness: a thing is the same as itself -/
theorem kit_tt : kitB "tuple" "tuple" = some true := by decide +kernel
theorem kit_tl : kitB "tuple" "list" = some false := by decide +kernel
theorem kit_it : kitB "int" "tuple" = some false := by decide +kernel
theorem kit_il : kitB "int" "list" = some false := by decide +kernel
theorem kit_is : kitB "int" "str" = some false := by decide +kernel
theorem kit_ii : kitB "int" "int" = some true := by decide +kernel
theorem kit_ib : kitB "int" "bool" = some false := by decide +kernel
theorem kit_nt : kitB "NoneType" "tuple" = some false := by decide +kernel
theorem kit_nl : kitB "NoneType" "list" = some false := by decide +kernel
theorem kit_st : kitB "str" "tuple" = some false := by decide +kernel
theorem kit_sl : kitB "str" "list" = some false := by decide +kernel
theorem kit_ss : kitB "str" "str" = some true := by decide +kernel
theorem eqB (a b neg : Bool) (M : Mem) : gEqB neg (.bl a) (.bl b) M = some (.bl (if neg then !(a == b) else a == b), M) := by
  rw [eqD (x := .bl a) (y := .bl b) rfl rfl rfl rfl]
  simp [PyData.eqv]
theorem same_int (n : Nat) (i : Int) : m__law_same (n + 1) [.int i, .int i] = some (.bl true) := by
  rw [e__law_same _ _ _ rfl]
  unfold b__law_same
  simp only [↓ev_V, ↓ev_C, ↓ev_O, ↓ev_U, ↓ev_Nil, ↓ev_Cons, ↓ev_L, ↓ev_If, ↓ev_tV, ↓ev_tTr, ↓ev_tAn, ↓ev_tOr, ↓ev_tNo, ↓ev_NotB, ↓ev_AnB, ↓ev_OrB, ↓ev_Tup, ↓ev_Lst, ↓ev_CP, ↓ev_ML, ↓ev_Sli, ↓ev_oN, ↓ev_oS, ↓ev_Ch, ↓ev_gN, ↓ev_gsNil, ↓ev_gsCons, ↓ev_gT, ↓ev_Seq, ↓ev_Asg, ↓ev_Par, ↓ev_Ret, ↓ev_Drop, ↓ev_sIf, ↓ev_Next, ↓ev_Brk, ↓ev_Cont, ↓ev_RetN, ↓ev_Sub, ↓ev_For, ↓ev_body, ↓ev_iE, ↓ev_iR1, ↓ev_iR2, ↓ev_iZ, ↓ev_iEn, ↓ev_item, ↓ev_Lc, ↓ev_Yes, ↓ev_Par3, ↓ev_As2, ↓ev_As4, ↓ev_CV, ↓ev_Fld, ↓ev_Mk, ↓ev_Mk0, ↓ev_Mt, ↓ev_ForM, ↓ev_bodyM, ↓ev_gTmT, ↓ev_gTmR, ↓ev_AsgM, ↓ev_Star, ↓ev_Dc, ↓ev_iRv, kForM_e, kAsgM_e, kSt1_e, kSt2_e, kSt3_e, seqT, seqRf, popRf, insRf, inE, notInE, kDc_e, kRv_e, revT, revL, vOf_e, kO_e, kO2_e, kU_e, kCons_e, kCons2_e, kL_e, kIf_t, kIf_f, kB_e, kTr_e, kTr2_e, kAn_t, kAn_f, kOr_t, kOr_f, kNo_e, kNotB_e, kAnB_t, kAnB_f, kOrB_t, kOrB_f, kTup_e, kLst_e, kCP_e, kD_e, kML_e, kML2_e, kS1_e, kS2_e, kS3_e, kI_e, kCh1_e, kCh2_e, kCh3_t, kCh3_f, kAsg_e, kNx_e, kRet_e, kDrop_e, kSif_t, kSif_f, kSub1_e, kSub2_e, kSub3_e, kNxM_e, kFor_e, kBody_e, kIE_e, kSrc_e, kR1_e, kR2_e, kR2b_e, kZ1_e, kZ2_e, kEn_e, kMap_e, kMap2_e, kIt1_e, kIt2_t, kIt2_f, kSome_e, kLc_e, kLc2_e, kGc_e, par3_e, kAs2_e, kAs3_e, kAs4_e, kAs5_e, kAs6_e, fnOf2_e, fnV_e, kCV_e, kFld1_e, kFld2_e, kMk_e, kMk2_e, kMt_e, kMt2_e, kMt3_e, gFldE, setFE, metE, insAt_zero, insAt_succ, ob_s, ob_n, then_nx, then_rt, then_bk, then_ct, par2_e, turn_nx, turn_ct, turn_bk, turn_rt, runT_nil, runT_cons, mapT_nil, mapT_cons, finP_nx, finM_rt, finM_nx, addE, subE, negE, cmpE, ixT, truI, truB, at0, at1, at2, at3, List.getElem?_cons_zero, List.getElem?_cons_succ, List.set_cons_zero, List.set_cons_succ, List.length_cons, List.length_nil, Nat.reduceAdd, Nat.reduceLeDiff, if_true, if_false, reduceIte, reduceCtorEq, id_eq, Bool.not_true, Bool.not_false, Bool.false_eq_true, and_self, Int.reduceLE, Int.reduceLT, Int.reduceNeg, decide_true, decide_false, Option.toList_some, Option.toList_none, List.cons_append, List.nil_append, ixRf, tupRf, lenRf, listRf, isLstRf, appRf, revRf, setRf, itemsRf, itemsT, itemsL, zipT, zipRf, allRf, anyRf, sumRf, tupT, slRf, isiE, t2E, lenT, lstAt_zero, lstAt_succ, Option.isSome_some, Nat.reduceLT, Bool.or_true, Bool.or_false, Bool.true_or, Bool.false_or, gIsN, gNotN, D.isNon, wipeD, tyOf, kit_it, kit_il, kit_is, kit_ii, kit_ib, eqB, eqI, beq_self_eq_true]
  exact finP_rt _ _ rfl
theorem same_non (n : Nat) : m__law_same (n + 1) [.non, .non] = some (.bl true) := by
  rw [e__law_same _ _ _ rfl]
  unfold b__law_same
  simp only [↓ev_V, ↓ev_C, ↓ev_O, ↓ev_U, ↓ev_Nil, ↓ev_Cons, ↓ev_L, ↓ev_If, ↓ev_tV, ↓ev_tTr, ↓ev_tAn, ↓ev_tOr, ↓ev_tNo, ↓ev_NotB, ↓ev_AnB, ↓ev_OrB, ↓ev_Tup, ↓ev_Lst, ↓ev_CP, ↓ev_ML, ↓ev_Sli, ↓ev_oN, ↓ev_oS, ↓ev_Ch, ↓ev_gN, ↓ev_gsNil, ↓ev_gsCons, ↓ev_gT, ↓ev_Seq, ↓ev_Asg, ↓ev_Par, ↓ev_Ret, ↓ev_Drop, ↓ev_sIf, ↓ev_Next, ↓ev_Brk, ↓ev_Cont, ↓ev_RetN, ↓ev_Sub, ↓ev_For, ↓ev_body, ↓ev_iE, ↓ev_iR1, ↓ev_iR2, ↓ev_iZ, ↓ev_iEn, ↓ev_item, ↓ev_Lc, ↓ev_Yes, ↓ev_Par3, ↓ev_As2, ↓ev_As4, ↓ev_CV, ↓ev_Fld, ↓ev_Mk, ↓ev_Mk0, ↓ev_Mt, ↓ev_ForM, ↓ev_bodyM, ↓ev_gTmT, ↓ev_gTmR, ↓ev_AsgM, ↓ev_Star, ↓ev_Dc, ↓ev_iRv, kForM_e, kAsgM_e, kSt1_e, kSt2_e, kSt3_e, seqT, seqRf, popRf, insRf, inE, notInE, kDc_e, kRv_e, revT, revL, vOf_e, kO_e, kO2_e, kU_e, kCons_e, kCons2_e, kL_e, kIf_t, kIf_f, kB_e, kTr_e, kTr2_e, kAn_t, kAn_f, kOr_t, kOr_f, kNo_e, kNotB_e, kAnB_t, kAnB_f, kOrB_t, kOrB_f, kTup_e, kLst_e, kCP_e, kD_e, kML_e, kML2_e, kS1_e, kS2_e, kS3_e, kI_e, kCh1_e, kCh2_e, kCh3_t, kCh3_f, kAsg_e, kNx_e, kRet_e, kDrop_e, kSif_t, kSif_f, kSub1_e, kSub2_e, kSub3_e, kNxM_e, kFor_e, kBody_e, kIE_e, kSrc_e, kR1_e, kR2_e, kR2b_e, kZ1_e, kZ2_e, kEn_e, kMap_e, kMap2_e, kIt1_e, kIt2_t, kIt2_f, kSome_e, kLc_e, kLc2_e, kGc_e, par3_e, kAs2_e, kAs3_e, kAs4_e, kAs5_e, kAs6_e, fnOf2_e, fnV_e, kCV_e, kFld1_e, kFld2_e, kMk_e, kMk2_e, kMt_e, kMt2_e, kMt3_e, gFldE, setFE, metE, insAt_zero, insAt_succ, ob_s, ob_n, then_nx, then_rt, then_bk, then_ct, par2_e, turn_nx, turn_ct, turn_bk, turn_rt, runT_nil, runT_cons, mapT_nil, mapT_cons, finP_nx, finM_rt, finM_nx, addE, subE, negE, cmpE, ixT, truI, truB, at0, at1, at2, at3, List.getElem?_cons_zero, List.getElem?_cons_succ, List.set_cons_zero, List.set_cons_succ, List.length_cons, List.length_nil, Nat.reduceAdd, Nat.reduceLeDiff, if_true, if_false, reduceIte, reduceCtorEq, id_eq, Bool.not_true, Bool.not_false, Bool.false_eq_true, and_self, Int.reduceLE, Int.reduceLT, Int.reduceNeg, decide_true, decide_false, Option.toList_some, Option.toList_none, List.cons_append, List.nil_append, ixRf, tupRf, lenRf, listRf, isLstRf, appRf, revRf, setRf, itemsRf, itemsT, itemsL, zipT, zipRf, allRf, anyRf, sumRf, tupT, slRf, isiE, t2E, lenT, lstAt_zero, lstAt_succ, Option.isSome_some, Nat.reduceLT, Bool.or_true, Bool.or_false, Bool.true_or, Bool.false_or, gIsN, gNotN, D.isNon, wipeD, tyOf, kit_nt, kit_nl]
  exact finP_rt _ _ rfl
theorem same_map {f : List D → Option D} (x y : Option D) (M : Mem) : ∀ ds : List D, (∀ d ∈ ds, f [d, d] = some (.bl true)) → mapG (fun _ => True) (itemG (gT 2 (gsCons (gN 2) (gsCons (gN 3) gsNil))) tYesD (fCP f (fCons (fV 2) (fCons (fV 3) fNil))) [x, y, none, none]) (pairs ds ds) M = some (ds.map fun _ => .bl true, M)
  | [], _ => mapT_nil _ _
  | d :: ds, h => by
    have ih := same_map x y M ds fun d' hd => h d' (List.mem_cons_of_mem _ hd)
    have e := h d List.mem_cons_self
    unfold pairs
    simp only [↓ev_V, ↓ev_C, ↓ev_O, ↓ev_U, ↓ev_Nil, ↓ev_Cons, ↓ev_L, ↓ev_If, ↓ev_tV, ↓ev_tTr, ↓ev_tAn, ↓ev_tOr, ↓ev_tNo, ↓ev_NotB, ↓ev_AnB, ↓ev_OrB, ↓ev_Tup, ↓ev_Lst, ↓ev_CP, ↓ev_ML, ↓ev_Sli, ↓ev_oN, ↓ev_oS, ↓ev_Ch, ↓ev_gN, ↓ev_gsNil, ↓ev_gsCons, ↓ev_gT, ↓ev_Seq, ↓ev_Asg, ↓ev_Par, ↓ev_Ret, ↓ev_Drop, ↓ev_sIf, ↓ev_Next, ↓ev_Brk, ↓ev_Cont, ↓ev_RetN, ↓ev_Sub, ↓ev_For, ↓ev_body, ↓ev_iE, ↓ev_iR1, ↓ev_iR2, ↓ev_iZ, ↓ev_iEn, ↓ev_item, ↓ev_Lc, ↓ev_Yes, ↓ev_Par3, ↓ev_As2, ↓ev_As4, ↓ev_CV, ↓ev_Fld, ↓ev_Mk, ↓ev_Mk0, ↓ev_Mt, ↓ev_ForM, ↓ev_bodyM, ↓ev_gTmT, ↓ev_gTmR, ↓ev_AsgM, ↓ev_Star, ↓ev_Dc, ↓ev_iRv, kForM_e, kAsgM_e, kSt1_e, kSt2_e, kSt3_e, seqT, seqRf, popRf, insRf, inE, notInE, kDc_e, kRv_e, revT, revL, vOf_e, kO_e, kO2_e, kU_e, kCons_e, kCons2_e, kL_e, kIf_t, kIf_f, kB_e, kTr_e, kTr2_e, kAn_t, kAn_f, kOr_t, kOr_f, kNo_e, kNotB_e, kAnB_t, kAnB_f, kOrB_t, kOrB_f, kTup_e, kLst_e, kCP_e, kD_e, kML_e, kML2_e, kS1_e, kS2_e, kS3_e, kI_e, kCh1_e, kCh2_e, kCh3_t, kCh3_f, kAsg_e, kNx_e, kRet_e, kDrop_e, kSif_t, kSif_f, kSub1_e, kSub2_e, kSub3_e, kNxM_e, kFor_e, kBody_e, kIE_e, kSrc_e, kR1_e, kR2_e, kR2b_e, kZ1_e, kZ2_e, kEn_e, kMap_e, kMap2_e, kIt1_e, kIt2_t, kIt2_f, kSome_e, kLc_e, kLc2_e, kGc_e, par3_e, kAs2_e, kAs3_e, kAs4_e, kAs5_e, kAs6_e, fnOf2_e, fnV_e, kCV_e, kFld1_e, kFld2_e, kMk_e, kMk2_e, kMt_e, kMt2_e, kMt3_e, gFldE, setFE, metE, insAt_zero, insAt_succ, ob_s, ob_n, then_nx, then_rt, then_bk, then_ct, par2_e, turn_nx, turn_ct, turn_bk, turn_rt, runT_nil, runT_cons, mapT_nil, mapT_cons, finP_nx, finM_rt, finM_nx, addE, subE, negE, cmpE, ixT, truI, truB, at0, at1, at2, at3, List.getElem?_cons_zero, List.getElem?_cons_succ, List.set_cons_zero, List.set_cons_succ, List.length_cons, List.length_nil, Nat.reduceAdd, Nat.reduceLeDiff, if_true, if_false, reduceIte, reduceCtorEq, id_eq, Bool.not_true, Bool.not_false, Bool.false_eq_true, and_self, Int.reduceLE, Int.reduceLT, Int.reduceNeg, decide_true, decide_false, Option.toList_some, Option.toList_none, List.cons_append, List.nil_append, ixRf, tupRf, lenRf, listRf, isLstRf, appRf, revRf, setRf, itemsRf, itemsT, itemsL, zipT, zipRf, allRf, anyRf, sumRf, tupT, slRf, isiE, t2E, lenT, lstAt_zero, lstAt_succ, Option.isSome_some, Nat.reduceLT, Bool.or_true, Bool.or_false, Bool.true_or, Bool.false_or, gIsN, gNotN, D.isNon, wipeD, e, ih, List.map_cons]
theorem bls_true : ∀ ds : List D, D.bls (ds.map fun _ => .bl true) = some (ds.map fun _ => true)
  | [] => rfl
  | d :: ds => by simp [D.bls, bls_true ds]
theorem all_true : ∀ ds : List D, (ds.map fun _ => true).all id = true
  | [] => rfl
  | d :: ds => by simp
theorem same_tup {n : Nat} {ds : List D} (h : ∀ d ∈ ds, m__law_same n [d, d] = some (.bl true)) (hl : ds.length ≤ 100000) (ho : D.los 0 ds = true) : m__law_same (n + 1) [.tup ds, .tup ds] = some (.bl true) := by
  rw [e__law_same _ _ _ (by rw [los_cons, los_cons, lo_tup, ho]; rfl)]
  unfold b__law_same
  have lp : (pairs ds ds).length ≤ 100000 := by rw [pairs_len]; omega
  simp only [↓ev_V, ↓ev_C, ↓ev_O, ↓ev_U, ↓ev_Nil, ↓ev_Cons, ↓ev_L, ↓ev_If, ↓ev_tV, ↓ev_tTr, ↓ev_tAn, ↓ev_tOr, ↓ev_tNo, ↓ev_NotB, ↓ev_AnB, ↓ev_OrB, ↓ev_Tup, ↓ev_Lst, ↓ev_CP, ↓ev_ML, ↓ev_Sli, ↓ev_oN, ↓ev_oS, ↓ev_Ch, ↓ev_gN, ↓ev_gsNil, ↓ev_gsCons, ↓ev_gT, ↓ev_Seq, ↓ev_Asg, ↓ev_Par, ↓ev_Ret, ↓ev_Drop, ↓ev_sIf, ↓ev_Next, ↓ev_Brk, ↓ev_Cont, ↓ev_RetN, ↓ev_Sub, ↓ev_For, ↓ev_body, ↓ev_iE, ↓ev_iR1, ↓ev_iR2, ↓ev_iZ, ↓ev_iEn, ↓ev_item, ↓ev_Lc, ↓ev_Yes, ↓ev_Par3, ↓ev_As2, ↓ev_As4, ↓ev_CV, ↓ev_Fld, ↓ev_Mk, ↓ev_Mk0, ↓ev_Mt, ↓ev_ForM, ↓ev_bodyM, ↓ev_gTmT, ↓ev_gTmR, ↓ev_AsgM, ↓ev_Star, ↓ev_Dc, ↓ev_iRv, kForM_e, kAsgM_e, kSt1_e, kSt2_e, kSt3_e, seqT, seqRf, popRf, insRf, inE, notInE, kDc_e, kRv_e, revT, revL, vOf_e, kO_e, kO2_e, kU_e, kCons_e, kCons2_e, kL_e, kIf_t, kIf_f, kB_e, kTr_e, kTr2_e, kAn_t, kAn_f, kOr_t, kOr_f, kNo_e, kNotB_e, kAnB_t, kAnB_f, kOrB_t, kOrB_f, kTup_e, kLst_e, kCP_e, kD_e, kML_e, kML2_e, kS1_e, kS2_e, kS3_e, kI_e, kCh1_e, kCh2_e, kCh3_t, kCh3_f, kAsg_e, kNx_e, kRet_e, kDrop_e, kSif_t, kSif_f, kSub1_e, kSub2_e, kSub3_e, kNxM_e, kFor_e, kBody_e, kIE_e, kSrc_e, kR1_e, kR2_e, kR2b_e, kZ1_e, kZ2_e, kEn_e, kMap_e, kMap2_e, kIt1_e, kIt2_t, kIt2_f, kSome_e, kLc_e, kLc2_e, kGc_e, par3_e, kAs2_e, kAs3_e, kAs4_e, kAs5_e, kAs6_e, fnOf2_e, fnV_e, kCV_e, kFld1_e, kFld2_e, kMk_e, kMk2_e, kMt_e, kMt2_e, kMt3_e, gFldE, setFE, metE, insAt_zero, insAt_succ, ob_s, ob_n, then_nx, then_rt, then_bk, then_ct, par2_e, turn_nx, turn_ct, turn_bk, turn_rt, runT_nil, runT_cons, mapT_nil, mapT_cons, finP_nx, finM_rt, finM_nx, addE, subE, negE, cmpE, ixT, truI, truB, at0, at1, at2, at3, List.getElem?_cons_zero, List.getElem?_cons_succ, List.set_cons_zero, List.set_cons_succ, List.length_cons, List.length_nil, Nat.reduceAdd, Nat.reduceLeDiff, if_true, if_false, reduceIte, reduceCtorEq, id_eq, Bool.not_true, Bool.not_false, Bool.false_eq_true, and_self, Int.reduceLE, Int.reduceLT, Int.reduceNeg, decide_true, decide_false, Option.toList_some, Option.toList_none, List.cons_append, List.nil_append, ixRf, tupRf, lenRf, listRf, isLstRf, appRf, revRf, setRf, itemsRf, itemsT, itemsL, zipT, zipRf, allRf, anyRf, sumRf, tupT, slRf, isiE, t2E, lenT, lstAt_zero, lstAt_succ, Option.isSome_some, Nat.reduceLT, Bool.or_true, Bool.or_false, Bool.true_or, Bool.false_or, gIsN, gNotN, D.isNon, wipeD, tyOf, kit_tt, kit_tl, eqB, eqI, beq_self_eq_true, same_map _ _ _ ds h, lp, bls_true, all_true]
  exact finP_rt _ _ rfl
theorem same_eF (n : Nat) (q : Rat) : m__law_same (n + 2) [eF q, eF q] = some (.bl true) :=
  same_tup (fun d hd => by
    simp only [List.mem_cons, List.not_mem_nil, or_false] at hd
    rcases hd with rfl | rfl <;> exact same_int _ _) (by simp) rfl

/-! ### a half space along a ray -/
theorem eqS {x y : Str} (hx : PyData.canLay0 (.str x) = true) (hy : PyData.canLay0 (.str y) = true) (neg : Bool) (M : Mem) : gEqB neg (.str x) (.str y) M = some (.bl (if neg then !(x == y) else x == y), M) := by
  have s : ∀ {z : Str}, PyData.canLay0 (.str z) = true → SeqAt.shaped (.str z) = true := fun {z} h => by
    unfold SeqAt.shaped
    rw [h]
    rfl
  rw [eqD (x := .str x) (y := .str y) rfl rfl (s hx) (s hy)]
  simp [PyData.eqv]
theorem eq_hb (M : Mem) : gEq (.str "half") (.str "ball") M = some (.bl false, M) := by
  rw [show gEq = gEqB false from rfl, eqS (by decide +kernel) (by decide +kernel)]
  rfl
theorem eq_hh (M : Mem) : gEq (.str "half") (.str "half") M = some (.bl true, M) := by
  rw [show gEq = gEqB false from rfl, eqS (by decide +kernel) (by decide +kernel)]
  rfl
def id3 : T3 := ⟨⟨1, 0, 0⟩, ⟨0, 1, 0⟩, ⟨0, 0, 1⟩⟩
def no3 : P3 := ⟨0, 0, 0⟩
def eHalf (f : P3) (c : Rat) : D := .tup [.str "half", eP f, eF c]
def eLeaf (form : D) (t : T3) (s : P3) : D := .tup [.str "b", form, eT t, eP s]
theorem id3_app (p : P3) : id3.app p = p := by
  obtain ⟨x, y, z⟩ := p
  simp only [T3.app, P3.dot, id3, P3.mk.injEq]
  refine ⟨?_, ?_, ?_⟩ <;> grind
theorem id3_B : id3.B 2 := by
  have a : Rb 2 (0 : Rat) := rb_one (by decide)
  have b : Rb 2 (1 : Rat) := ⟨by unfold Bt; decide, by unfold Bt; decide⟩
  exact ⟨⟨b, a, a⟩, ⟨a, b, a⟩, ⟨a, a, b⟩⟩
theorem no3_B : no3.B 2 := ⟨rb_one (by decide), rb_one (by decide), rb_one (by decide)⟩
theorem dot_no3 (p : P3) : p.dot no3 = 0 := by
  simp only [P3.dot, no3]
  grind
theorem slabs_half {f : P3} {c : Rat} (hf : f.B 100) (hc : Rb 200 c) : m_slabs_of [eLeaf (eHalf f c) id3 no3] [] = some (.rf 0, [.lst [.tup [eP f, .non, eF c, .non, .int 0]]]) := by
  have t := turned_e id3_B hf (by decide)
  rw [id3_app] at t
  have d := dot_e hf no3_B (by decide)
  rw [dot_no3] at d
  have p := plus_e hc (rb_one (n := 1) (by decide)) (by decide)
  rw [Rat.add_zero] at p
  have i1 : ∀ M, gIx (eLeaf (eHalf f c) id3 no3) (.int 1) M = some (eHalf f c, M) := fun _ => rfl
  have i2 : ∀ M, gIx (eLeaf (eHalf f c) id3 no3) (.int 2) M = some (eT id3, M) := fun _ => rfl
  have i3 : ∀ M, gIx (eLeaf (eHalf f c) id3 no3) (.int 3) M = some (eP no3, M) := fun _ => rfl
  have j0 : ∀ M, gIx (eHalf f c) (.int 0) M = some (.str "half", M) := fun _ => rfl
  have j1 : ∀ M, gIx (eHalf f c) (.int 1) M = some (eP f, M) := fun _ => rfl
  have j2 : ∀ M, gIx (eHalf f c) (.int 2) M = some (eF c, M) := fun _ => rfl
  rw [e_slabs_of]
  unfold b_slabs_of
  simp only [↓ev_V, ↓ev_C, ↓ev_O, ↓ev_U, ↓ev_Nil, ↓ev_Cons, ↓ev_L, ↓ev_If, ↓ev_tV, ↓ev_tTr, ↓ev_tAn, ↓ev_tOr, ↓ev_tNo, ↓ev_NotB, ↓ev_AnB, ↓ev_OrB, ↓ev_Tup, ↓ev_Lst, ↓ev_CP, ↓ev_ML, ↓ev_Sli, ↓ev_oN, ↓ev_oS, ↓ev_Ch, ↓ev_gN, ↓ev_gsNil, ↓ev_gsCons, ↓ev_gT, ↓ev_Seq, ↓ev_Asg, ↓ev_Par, ↓ev_Ret, ↓ev_Drop, ↓ev_sIf, ↓ev_Next, ↓ev_Brk, ↓ev_Cont, ↓ev_RetN, ↓ev_Sub, ↓ev_For, ↓ev_body, ↓ev_iE, ↓ev_iR1, ↓ev_iR2, ↓ev_iZ, ↓ev_iEn, ↓ev_item, ↓ev_Lc, ↓ev_Yes, ↓ev_Par3, ↓ev_As2, ↓ev_As4, ↓ev_CV, ↓ev_Fld, ↓ev_Mk, ↓ev_Mk0, ↓ev_Mt, ↓ev_ForM, ↓ev_bodyM, ↓ev_gTmT, ↓ev_gTmR, ↓ev_AsgM, ↓ev_Star, ↓ev_Dc, ↓ev_iRv, kForM_e, kAsgM_e, kSt1_e, kSt2_e, kSt3_e, seqT, seqRf, popRf, insRf, inE, notInE, kDc_e, kRv_e, revT, revL, vOf_e, kO_e, kO2_e, kU_e, kCons_e, kCons2_e, kL_e, kIf_t, kIf_f, kB_e, kTr_e, kTr2_e, kAn_t, kAn_f, kOr_t, kOr_f, kNo_e, kNotB_e, kAnB_t, kAnB_f, kOrB_t, kOrB_f, kTup_e, kLst_e, kCP_e, kD_e, kML_e, kML2_e, kS1_e, kS2_e, kS3_e, kI_e, kCh1_e, kCh2_e, kCh3_t, kCh3_f, kAsg_e, kNx_e, kRet_e, kDrop_e, kSif_t, kSif_f, kSub1_e, kSub2_e, kSub3_e, kNxM_e, kFor_e, kBody_e, kIE_e, kSrc_e, kR1_e, kR2_e, kR2b_e, kZ1_e, kZ2_e, kEn_e, kMap_e, kMap2_e, kIt1_e, kIt2_t, kIt2_f, kSome_e, kLc_e, kLc2_e, kGc_e, par3_e, kAs2_e, kAs3_e, kAs4_e, kAs5_e, kAs6_e, fnOf2_e, fnV_e, kCV_e, kFld1_e, kFld2_e, kMk_e, kMk2_e, kMt_e, kMt2_e, kMt3_e, gFldE, setFE, metE, insAt_zero, insAt_succ, ob_s, ob_n, then_nx, then_rt, then_bk, then_ct, par2_e, turn_nx, turn_ct, turn_bk, turn_rt, runT_nil, runT_cons, mapT_nil, mapT_cons, finP_nx, finM_rt, finM_nx, addE, subE, negE, cmpE, ixT, truI, truB, at0, at1, at2, at3, List.getElem?_cons_zero, List.getElem?_cons_succ, List.set_cons_zero, List.set_cons_succ, List.length_cons, List.length_nil, Nat.reduceAdd, Nat.reduceLeDiff, if_true, if_false, reduceIte, reduceCtorEq, id_eq, Bool.not_true, Bool.not_false, Bool.false_eq_true, and_self, Int.reduceLE, Int.reduceLT, Int.reduceNeg, decide_true, decide_false, Option.toList_some, Option.toList_none, List.cons_append, List.nil_append, ixRf, tupRf, lenRf, listRf, isLstRf, appRf, revRf, setRf, itemsRf, itemsT, itemsL, zipT, zipRf, allRf, anyRf, sumRf, tupT, slRf, isiE, t2E, lenT, lstAt_zero, lstAt_succ, Option.isSome_some, Nat.reduceLT, Bool.or_true, Bool.or_false, Bool.true_or, Bool.false_or, gIsN, gNotN, D.isNon, wipeD, i1, i2, i3, j0, j1, j2, eq_hh, t, d, p]
/-- the moment at which a side is come to -/
def mom (t : Rat) : D := .tup [eF t, eF 0, eF 0]
def halfD (s l : Rat) : D := if s = 0 then (if 0 < l then .tup [.non, .non, .non, .non] else .non) else if 0 < s then .tup [.non, mom (l / s), .non, .int 0] else .tup [mom (l / s), .non, .int 0, .non]
theorem flat_moment_e {m n : Nat} {q r : Rat} (hq : Rb m q) (hr : Rb n r) (h : m + n ≤ 9000) (hz : r ≠ 0) : m_flat_moment [eF q, eF r] = some (mom (q / r)) := by
  rw [e_flat_moment _ _ rfl]
  unfold b_flat_moment
  have i : ∀ M, gIsN (eF q) .non M = some (.bl false, M) := fun _ => rfl
  simp only [↓i, ↓ev_V, ↓ev_C, ↓ev_O, ↓ev_U, ↓ev_Nil, ↓ev_Cons, ↓ev_L, ↓ev_If, ↓ev_tV, ↓ev_tTr, ↓ev_tAn, ↓ev_tOr, ↓ev_tNo, ↓ev_NotB, ↓ev_AnB, ↓ev_OrB, ↓ev_Tup, ↓ev_Lst, ↓ev_CP, ↓ev_ML, ↓ev_Sli, ↓ev_oN, ↓ev_oS, ↓ev_Ch, ↓ev_gN, ↓ev_gsNil, ↓ev_gsCons, ↓ev_gT, ↓ev_Seq, ↓ev_Asg, ↓ev_Par, ↓ev_Ret, ↓ev_Drop, ↓ev_sIf, ↓ev_Next, ↓ev_Brk, ↓ev_Cont, ↓ev_RetN, ↓ev_Sub, ↓ev_For, ↓ev_body, ↓ev_iE, ↓ev_iR1, ↓ev_iR2, ↓ev_iZ, ↓ev_iEn, ↓ev_item, ↓ev_Lc, ↓ev_Yes, ↓ev_Par3, ↓ev_As2, ↓ev_As4, ↓ev_CV, ↓ev_Fld, ↓ev_Mk, ↓ev_Mk0, ↓ev_Mt, ↓ev_ForM, ↓ev_bodyM, ↓ev_gTmT, ↓ev_gTmR, ↓ev_AsgM, ↓ev_Star, ↓ev_Dc, ↓ev_iRv, kForM_e, kAsgM_e, kSt1_e, kSt2_e, kSt3_e, seqT, seqRf, popRf, insRf, inE, notInE, kDc_e, kRv_e, revT, revL, vOf_e, kO_e, kO2_e, kU_e, kCons_e, kCons2_e, kL_e, kIf_t, kIf_f, kB_e, kTr_e, kTr2_e, kAn_t, kAn_f, kOr_t, kOr_f, kNo_e, kNotB_e, kAnB_t, kAnB_f, kOrB_t, kOrB_f, kTup_e, kLst_e, kCP_e, kD_e, kML_e, kML2_e, kS1_e, kS2_e, kS3_e, kI_e, kCh1_e, kCh2_e, kCh3_t, kCh3_f, kAsg_e, kNx_e, kRet_e, kDrop_e, kSif_t, kSif_f, kSub1_e, kSub2_e, kSub3_e, kNxM_e, kFor_e, kBody_e, kIE_e, kSrc_e, kR1_e, kR2_e, kR2b_e, kZ1_e, kZ2_e, kEn_e, kMap_e, kMap2_e, kIt1_e, kIt2_t, kIt2_f, kSome_e, kLc_e, kLc2_e, kGc_e, par3_e, kAs2_e, kAs3_e, kAs4_e, kAs5_e, kAs6_e, fnOf2_e, fnV_e, kCV_e, kFld1_e, kFld2_e, kMk_e, kMk2_e, kMt_e, kMt2_e, kMt3_e, gFldE, setFE, metE, insAt_zero, insAt_succ, ob_s, ob_n, then_nx, then_rt, then_bk, then_ct, par2_e, turn_nx, turn_ct, turn_bk, turn_rt, runT_nil, runT_cons, mapT_nil, mapT_cons, finP_nx, finM_rt, finM_nx, addE, subE, negE, cmpE, ixT, truI, truB, at0, at1, at2, at3, List.getElem?_cons_zero, List.getElem?_cons_succ, List.set_cons_zero, List.set_cons_succ, List.length_cons, List.length_nil, Nat.reduceAdd, Nat.reduceLeDiff, if_true, if_false, reduceIte, reduceCtorEq, id_eq, Bool.not_true, Bool.not_false, Bool.false_eq_true, and_self, Int.reduceLE, Int.reduceLT, Int.reduceNeg, decide_true, decide_false, Option.toList_some, Option.toList_none, List.cons_append, List.nil_append, ixRf, tupRf, lenRf, listRf, isLstRf, appRf, revRf, setRf, itemsRf, itemsT, itemsL, zipT, zipRf, allRf, anyRf, sumRf, tupT, slRf, isiE, t2E, lenT, lstAt_zero, lstAt_succ, Option.isSome_some, Nat.reduceLT, Bool.or_true, Bool.or_false, Bool.true_or, Bool.false_or, gIsN, gNotN, D.isNon, wipeD, over_e hq hr h hz, eF0]
  exact finP_rt _ _ rfl
theorem flat_none (r : Rat) : m_flat_moment [.non, eF r] = some .non := by
  rw [e_flat_moment _ _ rfl]
  unfold b_flat_moment
  simp only [↓ev_V, ↓ev_C, ↓ev_O, ↓ev_U, ↓ev_Nil, ↓ev_Cons, ↓ev_L, ↓ev_If, ↓ev_tV, ↓ev_tTr, ↓ev_tAn, ↓ev_tOr, ↓ev_tNo, ↓ev_NotB, ↓ev_AnB, ↓ev_OrB, ↓ev_Tup, ↓ev_Lst, ↓ev_CP, ↓ev_ML, ↓ev_Sli, ↓ev_oN, ↓ev_oS, ↓ev_Ch, ↓ev_gN, ↓ev_gsNil, ↓ev_gsCons, ↓ev_gT, ↓ev_Seq, ↓ev_Asg, ↓ev_Par, ↓ev_Ret, ↓ev_Drop, ↓ev_sIf, ↓ev_Next, ↓ev_Brk, ↓ev_Cont, ↓ev_RetN, ↓ev_Sub, ↓ev_For, ↓ev_body, ↓ev_iE, ↓ev_iR1, ↓ev_iR2, ↓ev_iZ, ↓ev_iEn, ↓ev_item, ↓ev_Lc, ↓ev_Yes, ↓ev_Par3, ↓ev_As2, ↓ev_As4, ↓ev_CV, ↓ev_Fld, ↓ev_Mk, ↓ev_Mk0, ↓ev_Mt, ↓ev_ForM, ↓ev_bodyM, ↓ev_gTmT, ↓ev_gTmR, ↓ev_AsgM, ↓ev_Star, ↓ev_Dc, ↓ev_iRv, kForM_e, kAsgM_e, kSt1_e, kSt2_e, kSt3_e, seqT, seqRf, popRf, insRf, inE, notInE, kDc_e, kRv_e, revT, revL, vOf_e, kO_e, kO2_e, kU_e, kCons_e, kCons2_e, kL_e, kIf_t, kIf_f, kB_e, kTr_e, kTr2_e, kAn_t, kAn_f, kOr_t, kOr_f, kNo_e, kNotB_e, kAnB_t, kAnB_f, kOrB_t, kOrB_f, kTup_e, kLst_e, kCP_e, kD_e, kML_e, kML2_e, kS1_e, kS2_e, kS3_e, kI_e, kCh1_e, kCh2_e, kCh3_t, kCh3_f, kAsg_e, kNx_e, kRet_e, kDrop_e, kSif_t, kSif_f, kSub1_e, kSub2_e, kSub3_e, kNxM_e, kFor_e, kBody_e, kIE_e, kSrc_e, kR1_e, kR2_e, kR2b_e, kZ1_e, kZ2_e, kEn_e, kMap_e, kMap2_e, kIt1_e, kIt2_t, kIt2_f, kSome_e, kLc_e, kLc2_e, kGc_e, par3_e, kAs2_e, kAs3_e, kAs4_e, kAs5_e, kAs6_e, fnOf2_e, fnV_e, kCV_e, kFld1_e, kFld2_e, kMk_e, kMk2_e, kMt_e, kMt2_e, kMt3_e, gFldE, setFE, metE, insAt_zero, insAt_succ, ob_s, ob_n, then_nx, then_rt, then_bk, then_ct, par2_e, turn_nx, turn_ct, turn_bk, turn_rt, runT_nil, runT_cons, mapT_nil, mapT_cons, finP_nx, finM_rt, finM_nx, addE, subE, negE, cmpE, ixT, truI, truB, at0, at1, at2, at3, List.getElem?_cons_zero, List.getElem?_cons_succ, List.set_cons_zero, List.set_cons_succ, List.length_cons, List.length_nil, Nat.reduceAdd, Nat.reduceLeDiff, if_true, if_false, reduceIte, reduceCtorEq, id_eq, Bool.not_true, Bool.not_false, Bool.false_eq_true, and_self, Int.reduceLE, Int.reduceLT, Int.reduceNeg, decide_true, decide_false, Option.toList_some, Option.toList_none, List.cons_append, List.nil_append, ixRf, tupRf, lenRf, listRf, isLstRf, appRf, revRf, setRf, itemsRf, itemsT, itemsL, zipT, zipRf, allRf, anyRf, sumRf, tupT, slRf, isiE, t2E, lenT, lstAt_zero, lstAt_succ, Option.isSome_some, Nat.reduceLT, Bool.or_true, Bool.or_false, Bool.true_or, Bool.false_or, gIsN, gNotN, D.isNon, wipeD]
  exact finP_rt _ _ rfl
theorem slab_half {f p w : P3} {c : Rat} (hf : f.B 100) (hc : Rb 200 c) (hp : p.B 100) (hw : w.B 100) : m_slab_stretch [.tup [eP f, .non, eF c, .non, .int 0], .tup [eP p, eP w]] = some (halfD (f.dot w) (c - f.dot p)) := by
  have d1 := dot_e hf hp (by decide)
  have d2 := dot_e hf hw (by decide)
  have b1 := Rb.dot hf hp
  have b2 := Rb.dot hf hw
  have m1 := minus_e hc b1 (by decide)
  have b3 := hc.sub b1
  have s1 := sign_e (f.dot w)
  have s2 := sign_e (c - f.dot p)
  generalize f.dot p = u at *
  generalize f.dot w = s at *
  rw [e_slab_stretch _ _ rfl]
  unfold b_slab_stretch
  unfold halfD
  by_cases hs : s = 0
  · rw [if_pos hs]
    have n1 : ¬ s < 0 := by rw [hs]; exact Rat.lt_irrefl
    have n2 : ¬ 0 < s := by rw [hs]; exact Rat.lt_irrefl
    rw [if_neg n1, if_neg n2] at s1
    by_cases hl : 0 < c - u
    · have n3 : ¬ c - u < 0 := by grind
      rw [if_neg n3, if_pos hl] at s2
      rw [if_pos hl]
      simp only [↓ev_V, ↓ev_C, ↓ev_O, ↓ev_U, ↓ev_Nil, ↓ev_Cons, ↓ev_L, ↓ev_If, ↓ev_tV, ↓ev_tTr, ↓ev_tAn, ↓ev_tOr, ↓ev_tNo, ↓ev_NotB, ↓ev_AnB, ↓ev_OrB, ↓ev_Tup, ↓ev_Lst, ↓ev_CP, ↓ev_ML, ↓ev_Sli, ↓ev_oN, ↓ev_oS, ↓ev_Ch, ↓ev_gN, ↓ev_gsNil, ↓ev_gsCons, ↓ev_gT, ↓ev_Seq, ↓ev_Asg, ↓ev_Par, ↓ev_Ret, ↓ev_Drop, ↓ev_sIf, ↓ev_Next, ↓ev_Brk, ↓ev_Cont, ↓ev_RetN, ↓ev_Sub, ↓ev_For, ↓ev_body, ↓ev_iE, ↓ev_iR1, ↓ev_iR2, ↓ev_iZ, ↓ev_iEn, ↓ev_item, ↓ev_Lc, ↓ev_Yes, ↓ev_Par3, ↓ev_As2, ↓ev_As4, ↓ev_CV, ↓ev_Fld, ↓ev_Mk, ↓ev_Mk0, ↓ev_Mt, ↓ev_ForM, ↓ev_bodyM, ↓ev_gTmT, ↓ev_gTmR, ↓ev_AsgM, ↓ev_Star, ↓ev_Dc, ↓ev_iRv, kForM_e, kAsgM_e, kSt1_e, kSt2_e, kSt3_e, seqT, seqRf, popRf, insRf, inE, notInE, kDc_e, kRv_e, revT, revL, vOf_e, kO_e, kO2_e, kU_e, kCons_e, kCons2_e, kL_e, kIf_t, kIf_f, kB_e, kTr_e, kTr2_e, kAn_t, kAn_f, kOr_t, kOr_f, kNo_e, kNotB_e, kAnB_t, kAnB_f, kOrB_t, kOrB_f, kTup_e, kLst_e, kCP_e, kD_e, kML_e, kML2_e, kS1_e, kS2_e, kS3_e, kI_e, kCh1_e, kCh2_e, kCh3_t, kCh3_f, kAsg_e, kNx_e, kRet_e, kDrop_e, kSif_t, kSif_f, kSub1_e, kSub2_e, kSub3_e, kNxM_e, kFor_e, kBody_e, kIE_e, kSrc_e, kR1_e, kR2_e, kR2b_e, kZ1_e, kZ2_e, kEn_e, kMap_e, kMap2_e, kIt1_e, kIt2_t, kIt2_f, kSome_e, kLc_e, kLc2_e, kGc_e, par3_e, kAs2_e, kAs3_e, kAs4_e, kAs5_e, kAs6_e, fnOf2_e, fnV_e, kCV_e, kFld1_e, kFld2_e, kMk_e, kMk2_e, kMt_e, kMt2_e, kMt3_e, gFldE, setFE, metE, insAt_zero, insAt_succ, ob_s, ob_n, then_nx, then_rt, then_bk, then_ct, par2_e, turn_nx, turn_ct, turn_bk, turn_rt, runT_nil, runT_cons, mapT_nil, mapT_cons, finP_nx, finM_rt, finM_nx, addE, subE, negE, cmpE, ixT, truI, truB, at0, at1, at2, at3, List.getElem?_cons_zero, List.getElem?_cons_succ, List.set_cons_zero, List.set_cons_succ, List.length_cons, List.length_nil, Nat.reduceAdd, Nat.reduceLeDiff, if_true, if_false, reduceIte, reduceCtorEq, id_eq, Bool.not_true, Bool.not_false, Bool.false_eq_true, and_self, Int.reduceLE, Int.reduceLT, Int.reduceNeg, decide_true, decide_false, Option.toList_some, Option.toList_none, List.cons_append, List.nil_append, ixRf, tupRf, lenRf, listRf, isLstRf, appRf, revRf, setRf, itemsRf, itemsT, itemsL, zipT, zipRf, allRf, anyRf, sumRf, tupT, slRf, isiE, t2E, lenT, lstAt_zero, lstAt_succ, Option.isSome_some, Nat.reduceLT, Bool.or_true, Bool.or_false, Bool.true_or, Bool.false_or, gIsN, gNotN, D.isNon, wipeD, d1, d2, m1, s1, s2, eqI, beq_self_eq_true]
      exact finP_rt _ _ rfl
    · rw [if_neg hl]
      have s3 : ∃ i : Int, m_sign [eF (c - u)] = some (.int i) ∧ ¬ 0 < i := by
        by_cases n3 : c - u < 0
        · rw [if_pos n3] at s2
          exact ⟨_, s2, by decide⟩
        · rw [if_neg n3, if_neg hl] at s2
          exact ⟨_, s2, by decide⟩
      obtain ⟨i, s3, hi⟩ := s3
      simp only [↓ev_V, ↓ev_C, ↓ev_O, ↓ev_U, ↓ev_Nil, ↓ev_Cons, ↓ev_L, ↓ev_If, ↓ev_tV, ↓ev_tTr, ↓ev_tAn, ↓ev_tOr, ↓ev_tNo, ↓ev_NotB, ↓ev_AnB, ↓ev_OrB, ↓ev_Tup, ↓ev_Lst, ↓ev_CP, ↓ev_ML, ↓ev_Sli, ↓ev_oN, ↓ev_oS, ↓ev_Ch, ↓ev_gN, ↓ev_gsNil, ↓ev_gsCons, ↓ev_gT, ↓ev_Seq, ↓ev_Asg, ↓ev_Par, ↓ev_Ret, ↓ev_Drop, ↓ev_sIf, ↓ev_Next, ↓ev_Brk, ↓ev_Cont, ↓ev_RetN, ↓ev_Sub, ↓ev_For, ↓ev_body, ↓ev_iE, ↓ev_iR1, ↓ev_iR2, ↓ev_iZ, ↓ev_iEn, ↓ev_item, ↓ev_Lc, ↓ev_Yes, ↓ev_Par3, ↓ev_As2, ↓ev_As4, ↓ev_CV, ↓ev_Fld, ↓ev_Mk, ↓ev_Mk0, ↓ev_Mt, ↓ev_ForM, ↓ev_bodyM, ↓ev_gTmT, ↓ev_gTmR, ↓ev_AsgM, ↓ev_Star, ↓ev_Dc, ↓ev_iRv, kForM_e, kAsgM_e, kSt1_e, kSt2_e, kSt3_e, seqT, seqRf, popRf, insRf, inE, notInE, kDc_e, kRv_e, revT, revL, vOf_e, kO_e, kO2_e, kU_e, kCons_e, kCons2_e, kL_e, kIf_t, kIf_f, kB_e, kTr_e, kTr2_e, kAn_t, kAn_f, kOr_t, kOr_f, kNo_e, kNotB_e, kAnB_t, kAnB_f, kOrB_t, kOrB_f, kTup_e, kLst_e, kCP_e, kD_e, kML_e, kML2_e, kS1_e, kS2_e, kS3_e, kI_e, kCh1_e, kCh2_e, kCh3_t, kCh3_f, kAsg_e, kNx_e, kRet_e, kDrop_e, kSif_t, kSif_f, kSub1_e, kSub2_e, kSub3_e, kNxM_e, kFor_e, kBody_e, kIE_e, kSrc_e, kR1_e, kR2_e, kR2b_e, kZ1_e, kZ2_e, kEn_e, kMap_e, kMap2_e, kIt1_e, kIt2_t, kIt2_f, kSome_e, kLc_e, kLc2_e, kGc_e, par3_e, kAs2_e, kAs3_e, kAs4_e, kAs5_e, kAs6_e, fnOf2_e, fnV_e, kCV_e, kFld1_e, kFld2_e, kMk_e, kMk2_e, kMt_e, kMt2_e, kMt3_e, gFldE, setFE, metE, insAt_zero, insAt_succ, ob_s, ob_n, then_nx, then_rt, then_bk, then_ct, par2_e, turn_nx, turn_ct, turn_bk, turn_rt, runT_nil, runT_cons, mapT_nil, mapT_cons, finP_nx, finM_rt, finM_nx, addE, subE, negE, cmpE, ixT, truI, truB, at0, at1, at2, at3, List.getElem?_cons_zero, List.getElem?_cons_succ, List.set_cons_zero, List.set_cons_succ, List.length_cons, List.length_nil, Nat.reduceAdd, Nat.reduceLeDiff, if_true, if_false, reduceIte, reduceCtorEq, id_eq, Bool.not_true, Bool.not_false, Bool.false_eq_true, and_self, Int.reduceLE, Int.reduceLT, Int.reduceNeg, decide_true, decide_false, Option.toList_some, Option.toList_none, List.cons_append, List.nil_append, ixRf, tupRf, lenRf, listRf, isLstRf, appRf, revRf, setRf, itemsRf, itemsT, itemsL, zipT, zipRf, allRf, anyRf, sumRf, tupT, slRf, isiE, t2E, lenT, lstAt_zero, lstAt_succ, Option.isSome_some, Nat.reduceLT, Bool.or_true, Bool.or_false, Bool.true_or, Bool.false_or, gIsN, gNotN, D.isNon, wipeD, d1, d2, m1, s1, s3, eqI, beq_self_eq_true, hi]
      exact finP_rt _ _ rfl
  · rw [if_neg hs]
    have f1 := flat_moment_e b3 b2 (by decide) hs
    have f0 := flat_none s
    by_cases hp : 0 < s
    · have n1 : ¬ s < 0 := by grind
      rw [if_neg n1, if_pos hp] at s1
      rw [if_pos hp]
      have dr : m_directed [.int 1, .non, mom ((c - u) / s), .tup [eP f, .non, eF c, .non, .int 0]] = some (.tup [.non, mom ((c - u) / s), .non, .int 0]) := by
        rw [e_directed _ _ _ _ rfl]
        unfold b_directed
        simp only [↓ev_V, ↓ev_C, ↓ev_O, ↓ev_U, ↓ev_Nil, ↓ev_Cons, ↓ev_L, ↓ev_If, ↓ev_tV, ↓ev_tTr, ↓ev_tAn, ↓ev_tOr, ↓ev_tNo, ↓ev_NotB, ↓ev_AnB, ↓ev_OrB, ↓ev_Tup, ↓ev_Lst, ↓ev_CP, ↓ev_ML, ↓ev_Sli, ↓ev_oN, ↓ev_oS, ↓ev_Ch, ↓ev_gN, ↓ev_gsNil, ↓ev_gsCons, ↓ev_gT, ↓ev_Seq, ↓ev_Asg, ↓ev_Par, ↓ev_Ret, ↓ev_Drop, ↓ev_sIf, ↓ev_Next, ↓ev_Brk, ↓ev_Cont, ↓ev_RetN, ↓ev_Sub, ↓ev_For, ↓ev_body, ↓ev_iE, ↓ev_iR1, ↓ev_iR2, ↓ev_iZ, ↓ev_iEn, ↓ev_item, ↓ev_Lc, ↓ev_Yes, ↓ev_Par3, ↓ev_As2, ↓ev_As4, ↓ev_CV, ↓ev_Fld, ↓ev_Mk, ↓ev_Mk0, ↓ev_Mt, ↓ev_ForM, ↓ev_bodyM, ↓ev_gTmT, ↓ev_gTmR, ↓ev_AsgM, ↓ev_Star, ↓ev_Dc, ↓ev_iRv, kForM_e, kAsgM_e, kSt1_e, kSt2_e, kSt3_e, seqT, seqRf, popRf, insRf, inE, notInE, kDc_e, kRv_e, revT, revL, vOf_e, kO_e, kO2_e, kU_e, kCons_e, kCons2_e, kL_e, kIf_t, kIf_f, kB_e, kTr_e, kTr2_e, kAn_t, kAn_f, kOr_t, kOr_f, kNo_e, kNotB_e, kAnB_t, kAnB_f, kOrB_t, kOrB_f, kTup_e, kLst_e, kCP_e, kD_e, kML_e, kML2_e, kS1_e, kS2_e, kS3_e, kI_e, kCh1_e, kCh2_e, kCh3_t, kCh3_f, kAsg_e, kNx_e, kRet_e, kDrop_e, kSif_t, kSif_f, kSub1_e, kSub2_e, kSub3_e, kNxM_e, kFor_e, kBody_e, kIE_e, kSrc_e, kR1_e, kR2_e, kR2b_e, kZ1_e, kZ2_e, kEn_e, kMap_e, kMap2_e, kIt1_e, kIt2_t, kIt2_f, kSome_e, kLc_e, kLc2_e, kGc_e, par3_e, kAs2_e, kAs3_e, kAs4_e, kAs5_e, kAs6_e, fnOf2_e, fnV_e, kCV_e, kFld1_e, kFld2_e, kMk_e, kMk2_e, kMt_e, kMt2_e, kMt3_e, gFldE, setFE, metE, insAt_zero, insAt_succ, ob_s, ob_n, then_nx, then_rt, then_bk, then_ct, par2_e, turn_nx, turn_ct, turn_bk, turn_rt, runT_nil, runT_cons, mapT_nil, mapT_cons, finP_nx, finM_rt, finM_nx, addE, subE, negE, cmpE, ixT, truI, truB, at0, at1, at2, at3, List.getElem?_cons_zero, List.getElem?_cons_succ, List.set_cons_zero, List.set_cons_succ, List.length_cons, List.length_nil, Nat.reduceAdd, Nat.reduceLeDiff, if_true, if_false, reduceIte, reduceCtorEq, id_eq, Bool.not_true, Bool.not_false, Bool.false_eq_true, and_self, Int.reduceLE, Int.reduceLT, Int.reduceNeg, decide_true, decide_false, Option.toList_some, Option.toList_none, List.cons_append, List.nil_append, ixRf, tupRf, lenRf, listRf, isLstRf, appRf, revRf, setRf, itemsRf, itemsT, itemsL, zipT, zipRf, allRf, anyRf, sumRf, tupT, slRf, isiE, t2E, lenT, lstAt_zero, lstAt_succ, Option.isSome_some, Nat.reduceLT, Bool.or_true, Bool.or_false, Bool.true_or, Bool.false_or, gIsN, gNotN, D.isNon, wipeD, show (0 : Int) < 1 by decide, at4]
        exact finP_rt _ _ rfl
      have b1' : ((1 : Int) == 0) = false := rfl
      simp only [↓ev_V, ↓ev_C, ↓ev_O, ↓ev_U, ↓ev_Nil, ↓ev_Cons, ↓ev_L, ↓ev_If, ↓ev_tV, ↓ev_tTr, ↓ev_tAn, ↓ev_tOr, ↓ev_tNo, ↓ev_NotB, ↓ev_AnB, ↓ev_OrB, ↓ev_Tup, ↓ev_Lst, ↓ev_CP, ↓ev_ML, ↓ev_Sli, ↓ev_oN, ↓ev_oS, ↓ev_Ch, ↓ev_gN, ↓ev_gsNil, ↓ev_gsCons, ↓ev_gT, ↓ev_Seq, ↓ev_Asg, ↓ev_Par, ↓ev_Ret, ↓ev_Drop, ↓ev_sIf, ↓ev_Next, ↓ev_Brk, ↓ev_Cont, ↓ev_RetN, ↓ev_Sub, ↓ev_For, ↓ev_body, ↓ev_iE, ↓ev_iR1, ↓ev_iR2, ↓ev_iZ, ↓ev_iEn, ↓ev_item, ↓ev_Lc, ↓ev_Yes, ↓ev_Par3, ↓ev_As2, ↓ev_As4, ↓ev_CV, ↓ev_Fld, ↓ev_Mk, ↓ev_Mk0, ↓ev_Mt, ↓ev_ForM, ↓ev_bodyM, ↓ev_gTmT, ↓ev_gTmR, ↓ev_AsgM, ↓ev_Star, ↓ev_Dc, ↓ev_iRv, kForM_e, kAsgM_e, kSt1_e, kSt2_e, kSt3_e, seqT, seqRf, popRf, insRf, inE, notInE, kDc_e, kRv_e, revT, revL, vOf_e, kO_e, kO2_e, kU_e, kCons_e, kCons2_e, kL_e, kIf_t, kIf_f, kB_e, kTr_e, kTr2_e, kAn_t, kAn_f, kOr_t, kOr_f, kNo_e, kNotB_e, kAnB_t, kAnB_f, kOrB_t, kOrB_f, kTup_e, kLst_e, kCP_e, kD_e, kML_e, kML2_e, kS1_e, kS2_e, kS3_e, kI_e, kCh1_e, kCh2_e, kCh3_t, kCh3_f, kAsg_e, kNx_e, kRet_e, kDrop_e, kSif_t, kSif_f, kSub1_e, kSub2_e, kSub3_e, kNxM_e, kFor_e, kBody_e, kIE_e, kSrc_e, kR1_e, kR2_e, kR2b_e, kZ1_e, kZ2_e, kEn_e, kMap_e, kMap2_e, kIt1_e, kIt2_t, kIt2_f, kSome_e, kLc_e, kLc2_e, kGc_e, par3_e, kAs2_e, kAs3_e, kAs4_e, kAs5_e, kAs6_e, fnOf2_e, fnV_e, kCV_e, kFld1_e, kFld2_e, kMk_e, kMk2_e, kMt_e, kMt2_e, kMt3_e, gFldE, setFE, metE, insAt_zero, insAt_succ, ob_s, ob_n, then_nx, then_rt, then_bk, then_ct, par2_e, turn_nx, turn_ct, turn_bk, turn_rt, runT_nil, runT_cons, mapT_nil, mapT_cons, finP_nx, finM_rt, finM_nx, addE, subE, negE, cmpE, ixT, truI, truB, at0, at1, at2, at3, List.getElem?_cons_zero, List.getElem?_cons_succ, List.set_cons_zero, List.set_cons_succ, List.length_cons, List.length_nil, Nat.reduceAdd, Nat.reduceLeDiff, if_true, if_false, reduceIte, reduceCtorEq, id_eq, Bool.not_true, Bool.not_false, Bool.false_eq_true, and_self, Int.reduceLE, Int.reduceLT, Int.reduceNeg, decide_true, decide_false, Option.toList_some, Option.toList_none, List.cons_append, List.nil_append, ixRf, tupRf, lenRf, listRf, isLstRf, appRf, revRf, setRf, itemsRf, itemsT, itemsL, zipT, zipRf, allRf, anyRf, sumRf, tupT, slRf, isiE, t2E, lenT, lstAt_zero, lstAt_succ, Option.isSome_some, Nat.reduceLT, Bool.or_true, Bool.or_false, Bool.true_or, Bool.false_or, gIsN, gNotN, D.isNon, wipeD, d1, d2, m1, s1, eqI, b1', f0, f1, dr]
      exact finP_rt _ _ rfl
    · have n1 : s < 0 := by grind
      rw [if_pos n1] at s1
      rw [if_neg hp]
      have dr : m_directed [.int (-1), .non, mom ((c - u) / s), .tup [eP f, .non, eF c, .non, .int 0]] = some (.tup [mom ((c - u) / s), .non, .int 0, .non]) := by
        rw [e_directed _ _ _ _ rfl]
        unfold b_directed
        simp only [↓ev_V, ↓ev_C, ↓ev_O, ↓ev_U, ↓ev_Nil, ↓ev_Cons, ↓ev_L, ↓ev_If, ↓ev_tV, ↓ev_tTr, ↓ev_tAn, ↓ev_tOr, ↓ev_tNo, ↓ev_NotB, ↓ev_AnB, ↓ev_OrB, ↓ev_Tup, ↓ev_Lst, ↓ev_CP, ↓ev_ML, ↓ev_Sli, ↓ev_oN, ↓ev_oS, ↓ev_Ch, ↓ev_gN, ↓ev_gsNil, ↓ev_gsCons, ↓ev_gT, ↓ev_Seq, ↓ev_Asg, ↓ev_Par, ↓ev_Ret, ↓ev_Drop, ↓ev_sIf, ↓ev_Next, ↓ev_Brk, ↓ev_Cont, ↓ev_RetN, ↓ev_Sub, ↓ev_For, ↓ev_body, ↓ev_iE, ↓ev_iR1, ↓ev_iR2, ↓ev_iZ, ↓ev_iEn, ↓ev_item, ↓ev_Lc, ↓ev_Yes, ↓ev_Par3, ↓ev_As2, ↓ev_As4, ↓ev_CV, ↓ev_Fld, ↓ev_Mk, ↓ev_Mk0, ↓ev_Mt, ↓ev_ForM, ↓ev_bodyM, ↓ev_gTmT, ↓ev_gTmR, ↓ev_AsgM, ↓ev_Star, ↓ev_Dc, ↓ev_iRv, kForM_e, kAsgM_e, kSt1_e, kSt2_e, kSt3_e, seqT, seqRf, popRf, insRf, inE, notInE, kDc_e, kRv_e, revT, revL, vOf_e, kO_e, kO2_e, kU_e, kCons_e, kCons2_e, kL_e, kIf_t, kIf_f, kB_e, kTr_e, kTr2_e, kAn_t, kAn_f, kOr_t, kOr_f, kNo_e, kNotB_e, kAnB_t, kAnB_f, kOrB_t, kOrB_f, kTup_e, kLst_e, kCP_e, kD_e, kML_e, kML2_e, kS1_e, kS2_e, kS3_e, kI_e, kCh1_e, kCh2_e, kCh3_t, kCh3_f, kAsg_e, kNx_e, kRet_e, kDrop_e, kSif_t, kSif_f, kSub1_e, kSub2_e, kSub3_e, kNxM_e, kFor_e, kBody_e, kIE_e, kSrc_e, kR1_e, kR2_e, kR2b_e, kZ1_e, kZ2_e, kEn_e, kMap_e, kMap2_e, kIt1_e, kIt2_t, kIt2_f, kSome_e, kLc_e, kLc2_e, kGc_e, par3_e, kAs2_e, kAs3_e, kAs4_e, kAs5_e, kAs6_e, fnOf2_e, fnV_e, kCV_e, kFld1_e, kFld2_e, kMk_e, kMk2_e, kMt_e, kMt2_e, kMt3_e, gFldE, setFE, metE, insAt_zero, insAt_succ, ob_s, ob_n, then_nx, then_rt, then_bk, then_ct, par2_e, turn_nx, turn_ct, turn_bk, turn_rt, runT_nil, runT_cons, mapT_nil, mapT_cons, finP_nx, finM_rt, finM_nx, addE, subE, negE, cmpE, ixT, truI, truB, at0, at1, at2, at3, List.getElem?_cons_zero, List.getElem?_cons_succ, List.set_cons_zero, List.set_cons_succ, List.length_cons, List.length_nil, Nat.reduceAdd, Nat.reduceLeDiff, if_true, if_false, reduceIte, reduceCtorEq, id_eq, Bool.not_true, Bool.not_false, Bool.false_eq_true, and_self, Int.reduceLE, Int.reduceLT, Int.reduceNeg, decide_true, decide_false, Option.toList_some, Option.toList_none, List.cons_append, List.nil_append, ixRf, tupRf, lenRf, listRf, isLstRf, appRf, revRf, setRf, itemsRf, itemsT, itemsL, zipT, zipRf, allRf, anyRf, sumRf, tupT, slRf, isiE, t2E, lenT, lstAt_zero, lstAt_succ, Option.isSome_some, Nat.reduceLT, Bool.or_true, Bool.or_false, Bool.true_or, Bool.false_or, gIsN, gNotN, D.isNon, wipeD, at4]
        exact finP_rt _ _ rfl
      have b1' : ((-1 : Int) == 0) = false := rfl
      simp only [↓ev_V, ↓ev_C, ↓ev_O, ↓ev_U, ↓ev_Nil, ↓ev_Cons, ↓ev_L, ↓ev_If, ↓ev_tV, ↓ev_tTr, ↓ev_tAn, ↓ev_tOr, ↓ev_tNo, ↓ev_NotB, ↓ev_AnB, ↓ev_OrB, ↓ev_Tup, ↓ev_Lst, ↓ev_CP, ↓ev_ML, ↓ev_Sli, ↓ev_oN, ↓ev_oS, ↓ev_Ch, ↓ev_gN, ↓ev_gsNil, ↓ev_gsCons, ↓ev_gT, ↓ev_Seq, ↓ev_Asg, ↓ev_Par, ↓ev_Ret, ↓ev_Drop, ↓ev_sIf, ↓ev_Next, ↓ev_Brk, ↓ev_Cont, ↓ev_RetN, ↓ev_Sub, ↓ev_For, ↓ev_body, ↓ev_iE, ↓ev_iR1, ↓ev_iR2, ↓ev_iZ, ↓ev_iEn, ↓ev_item, ↓ev_Lc, ↓ev_Yes, ↓ev_Par3, ↓ev_As2, ↓ev_As4, ↓ev_CV, ↓ev_Fld, ↓ev_Mk, ↓ev_Mk0, ↓ev_Mt, ↓ev_ForM, ↓ev_bodyM, ↓ev_gTmT, ↓ev_gTmR, ↓ev_AsgM, ↓ev_Star, ↓ev_Dc, ↓ev_iRv, kForM_e, kAsgM_e, kSt1_e, kSt2_e, kSt3_e, seqT, seqRf, popRf, insRf, inE, notInE, kDc_e, kRv_e, revT, revL, vOf_e, kO_e, kO2_e, kU_e, kCons_e, kCons2_e, kL_e, kIf_t, kIf_f, kB_e, kTr_e, kTr2_e, kAn_t, kAn_f, kOr_t, kOr_f, kNo_e, kNotB_e, kAnB_t, kAnB_f, kOrB_t, kOrB_f, kTup_e, kLst_e, kCP_e, kD_e, kML_e, kML2_e, kS1_e, kS2_e, kS3_e, kI_e, kCh1_e, kCh2_e, kCh3_t, kCh3_f, kAsg_e, kNx_e, kRet_e, kDrop_e, kSif_t, kSif_f, kSub1_e, kSub2_e, kSub3_e, kNxM_e, kFor_e, kBody_e, kIE_e, kSrc_e, kR1_e, kR2_e, kR2b_e, kZ1_e, kZ2_e, kEn_e, kMap_e, kMap2_e, kIt1_e, kIt2_t, kIt2_f, kSome_e, kLc_e, kLc2_e, kGc_e, par3_e, kAs2_e, kAs3_e, kAs4_e, kAs5_e, kAs6_e, fnOf2_e, fnV_e, kCV_e, kFld1_e, kFld2_e, kMk_e, kMk2_e, kMt_e, kMt2_e, kMt3_e, gFldE, setFE, metE, insAt_zero, insAt_succ, ob_s, ob_n, then_nx, then_rt, then_bk, then_ct, par2_e, turn_nx, turn_ct, turn_bk, turn_rt, runT_nil, runT_cons, mapT_nil, mapT_cons, finP_nx, finM_rt, finM_nx, addE, subE, negE, cmpE, ixT, truI, truB, at0, at1, at2, at3, List.getElem?_cons_zero, List.getElem?_cons_succ, List.set_cons_zero, List.set_cons_succ, List.length_cons, List.length_nil, Nat.reduceAdd, Nat.reduceLeDiff, if_true, if_false, reduceIte, reduceCtorEq, id_eq, Bool.not_true, Bool.not_false, Bool.false_eq_true, and_self, Int.reduceLE, Int.reduceLT, Int.reduceNeg, decide_true, decide_false, Option.toList_some, Option.toList_none, List.cons_append, List.nil_append, ixRf, tupRf, lenRf, listRf, isLstRf, appRf, revRf, setRf, itemsRf, itemsT, itemsL, zipT, zipRf, allRf, anyRf, sumRf, tupT, slRf, isiE, t2E, lenT, lstAt_zero, lstAt_succ, Option.isSome_some, Nat.reduceLT, Bool.or_true, Bool.or_false, Bool.true_or, Bool.false_or, gIsN, gNotN, D.isNon, wipeD, d1, d2, m1, s1, eqI, b1', f0, f1, dr]
      exact finP_rt _ _ rfl

theorem met_one {x : D} (hx : x = .non ∨ (∃ a b c d, x = .tup [a, b, c, d] ∧ (a = .non ∨ b = .non) ∧ (a = .non → c = .non) ∧ (b = .non → d = .non) ∧ D.isNon a = (match a with | .non => true | _ => false))) (c0 : Cell) (n : Nat) : m_met [.rf 1, .fn n] [c0, .lst [x]] = some (x, [c0, .lst [x]]) := by
  rw [e_met]
  unfold b_met
  have z : lstAt [c0, .lst [x]] 1 = some [x] := rfl
  have g : ([c0, .lst [x]] : Mem)[1]? = some (.lst [x]) := rfl
  rcases hx with rfl | ⟨a, b, c, d, rfl, hab, ha, hb, _⟩
  · simp only [↓ev_V, ↓ev_C, ↓ev_O, ↓ev_U, ↓ev_Nil, ↓ev_Cons, ↓ev_L, ↓ev_If, ↓ev_tV, ↓ev_tTr, ↓ev_tAn, ↓ev_tOr, ↓ev_tNo, ↓ev_NotB, ↓ev_AnB, ↓ev_OrB, ↓ev_Tup, ↓ev_Lst, ↓ev_CP, ↓ev_ML, ↓ev_Sli, ↓ev_oN, ↓ev_oS, ↓ev_Ch, ↓ev_gN, ↓ev_gsNil, ↓ev_gsCons, ↓ev_gT, ↓ev_Seq, ↓ev_Asg, ↓ev_Par, ↓ev_Ret, ↓ev_Drop, ↓ev_sIf, ↓ev_Next, ↓ev_Brk, ↓ev_Cont, ↓ev_RetN, ↓ev_Sub, ↓ev_For, ↓ev_body, ↓ev_iE, ↓ev_iR1, ↓ev_iR2, ↓ev_iZ, ↓ev_iEn, ↓ev_item, ↓ev_Lc, ↓ev_Yes, ↓ev_Par3, ↓ev_As2, ↓ev_As4, ↓ev_CV, ↓ev_Fld, ↓ev_Mk, ↓ev_Mk0, ↓ev_Mt, ↓ev_ForM, ↓ev_bodyM, ↓ev_gTmT, ↓ev_gTmR, ↓ev_AsgM, ↓ev_Star, ↓ev_Dc, ↓ev_iRv, kForM_e, kAsgM_e, kSt1_e, kSt2_e, kSt3_e, seqT, seqRf, popRf, insRf, inE, notInE, kDc_e, kRv_e, revT, revL, vOf_e, kO_e, kO2_e, kU_e, kCons_e, kCons2_e, kL_e, kIf_t, kIf_f, kB_e, kTr_e, kTr2_e, kAn_t, kAn_f, kOr_t, kOr_f, kNo_e, kNotB_e, kAnB_t, kAnB_f, kOrB_t, kOrB_f, kTup_e, kLst_e, kCP_e, kD_e, kML_e, kML2_e, kS1_e, kS2_e, kS3_e, kI_e, kCh1_e, kCh2_e, kCh3_t, kCh3_f, kAsg_e, kNx_e, kRet_e, kDrop_e, kSif_t, kSif_f, kSub1_e, kSub2_e, kSub3_e, kNxM_e, kFor_e, kBody_e, kIE_e, kSrc_e, kR1_e, kR2_e, kR2b_e, kZ1_e, kZ2_e, kEn_e, kMap_e, kMap2_e, kIt1_e, kIt2_t, kIt2_f, kSome_e, kLc_e, kLc2_e, kGc_e, par3_e, kAs2_e, kAs3_e, kAs4_e, kAs5_e, kAs6_e, fnOf2_e, fnV_e, kCV_e, kFld1_e, kFld2_e, kMk_e, kMk2_e, kMt_e, kMt2_e, kMt3_e, gFldE, setFE, metE, insAt_zero, insAt_succ, ob_s, ob_n, then_nx, then_rt, then_bk, then_ct, par2_e, turn_nx, turn_ct, turn_bk, turn_rt, runT_nil, runT_cons, mapT_nil, mapT_cons, finP_nx, finM_rt, finM_nx, addE, subE, negE, cmpE, ixT, truI, truB, at0, at1, at2, at3, List.getElem?_cons_zero, List.getElem?_cons_succ, List.set_cons_zero, List.set_cons_succ, List.length_cons, List.length_nil, Nat.reduceAdd, Nat.reduceLeDiff, if_true, if_false, reduceIte, reduceCtorEq, id_eq, Bool.not_true, Bool.not_false, Bool.false_eq_true, and_self, Int.reduceLE, Int.reduceLT, Int.reduceNeg, decide_true, decide_false, Option.toList_some, Option.toList_none, List.cons_append, List.nil_append, ixRf, tupRf, lenRf, listRf, isLstRf, appRf, revRf, setRf, itemsRf, itemsT, itemsL, zipT, zipRf, allRf, anyRf, sumRf, tupT, slRf, isiE, t2E, lenT, lstAt_zero, lstAt_succ, Option.isSome_some, Nat.reduceLT, Bool.or_true, Bool.or_false, Bool.true_or, Bool.false_or, gIsN, gNotN, D.isNon, wipeD, z, runL_cons g]
  · by_cases ea : a = .non
    · have ec := ha ea
      subst ea ec
      by_cases eb : b = .non
      · have ed := hb eb
        subst eb ed
        simp only [↓ev_V, ↓ev_C, ↓ev_O, ↓ev_U, ↓ev_Nil, ↓ev_Cons, ↓ev_L, ↓ev_If, ↓ev_tV, ↓ev_tTr, ↓ev_tAn, ↓ev_tOr, ↓ev_tNo, ↓ev_NotB, ↓ev_AnB, ↓ev_OrB, ↓ev_Tup, ↓ev_Lst, ↓ev_CP, ↓ev_ML, ↓ev_Sli, ↓ev_oN, ↓ev_oS, ↓ev_Ch, ↓ev_gN, ↓ev_gsNil, ↓ev_gsCons, ↓ev_gT, ↓ev_Seq, ↓ev_Asg, ↓ev_Par, ↓ev_Ret, ↓ev_Drop, ↓ev_sIf, ↓ev_Next, ↓ev_Brk, ↓ev_Cont, ↓ev_RetN, ↓ev_Sub, ↓ev_For, ↓ev_body, ↓ev_iE, ↓ev_iR1, ↓ev_iR2, ↓ev_iZ, ↓ev_iEn, ↓ev_item, ↓ev_Lc, ↓ev_Yes, ↓ev_Par3, ↓ev_As2, ↓ev_As4, ↓ev_CV, ↓ev_Fld, ↓ev_Mk, ↓ev_Mk0, ↓ev_Mt, ↓ev_ForM, ↓ev_bodyM, ↓ev_gTmT, ↓ev_gTmR, ↓ev_AsgM, ↓ev_Star, ↓ev_Dc, ↓ev_iRv, kForM_e, kAsgM_e, kSt1_e, kSt2_e, kSt3_e, seqT, seqRf, popRf, insRf, inE, notInE, kDc_e, kRv_e, revT, revL, vOf_e, kO_e, kO2_e, kU_e, kCons_e, kCons2_e, kL_e, kIf_t, kIf_f, kB_e, kTr_e, kTr2_e, kAn_t, kAn_f, kOr_t, kOr_f, kNo_e, kNotB_e, kAnB_t, kAnB_f, kOrB_t, kOrB_f, kTup_e, kLst_e, kCP_e, kD_e, kML_e, kML2_e, kS1_e, kS2_e, kS3_e, kI_e, kCh1_e, kCh2_e, kCh3_t, kCh3_f, kAsg_e, kNx_e, kRet_e, kDrop_e, kSif_t, kSif_f, kSub1_e, kSub2_e, kSub3_e, kNxM_e, kFor_e, kBody_e, kIE_e, kSrc_e, kR1_e, kR2_e, kR2b_e, kZ1_e, kZ2_e, kEn_e, kMap_e, kMap2_e, kIt1_e, kIt2_t, kIt2_f, kSome_e, kLc_e, kLc2_e, kGc_e, par3_e, kAs2_e, kAs3_e, kAs4_e, kAs5_e, kAs6_e, fnOf2_e, fnV_e, kCV_e, kFld1_e, kFld2_e, kMk_e, kMk2_e, kMt_e, kMt2_e, kMt3_e, gFldE, setFE, metE, insAt_zero, insAt_succ, ob_s, ob_n, then_nx, then_rt, then_bk, then_ct, par2_e, turn_nx, turn_ct, turn_bk, turn_rt, runT_nil, runT_cons, mapT_nil, mapT_cons, finP_nx, finM_rt, finM_nx, addE, subE, negE, cmpE, ixT, truI, truB, at0, at1, at2, at3, List.getElem?_cons_zero, List.getElem?_cons_succ, List.set_cons_zero, List.set_cons_succ, List.length_cons, List.length_nil, Nat.reduceAdd, Nat.reduceLeDiff, if_true, if_false, reduceIte, reduceCtorEq, id_eq, Bool.not_true, Bool.not_false, Bool.false_eq_true, and_self, Int.reduceLE, Int.reduceLT, Int.reduceNeg, decide_true, decide_false, Option.toList_some, Option.toList_none, List.cons_append, List.nil_append, ixRf, tupRf, lenRf, listRf, isLstRf, appRf, revRf, setRf, itemsRf, itemsT, itemsL, zipT, zipRf, allRf, anyRf, sumRf, tupT, slRf, isiE, t2E, lenT, lstAt_zero, lstAt_succ, Option.isSome_some, Nat.reduceLT, Bool.or_true, Bool.or_false, Bool.true_or, Bool.false_or, gIsN, gNotN, D.isNon, wipeD, z, runL_cons g, runL_nil g]
      · have nb : b.isNon = false := by cases b <;> first | rfl | exact absurd rfl eb
        simp only [↓ev_V, ↓ev_C, ↓ev_O, ↓ev_U, ↓ev_Nil, ↓ev_Cons, ↓ev_L, ↓ev_If, ↓ev_tV, ↓ev_tTr, ↓ev_tAn, ↓ev_tOr, ↓ev_tNo, ↓ev_NotB, ↓ev_AnB, ↓ev_OrB, ↓ev_Tup, ↓ev_Lst, ↓ev_CP, ↓ev_ML, ↓ev_Sli, ↓ev_oN, ↓ev_oS, ↓ev_Ch, ↓ev_gN, ↓ev_gsNil, ↓ev_gsCons, ↓ev_gT, ↓ev_Seq, ↓ev_Asg, ↓ev_Par, ↓ev_Ret, ↓ev_Drop, ↓ev_sIf, ↓ev_Next, ↓ev_Brk, ↓ev_Cont, ↓ev_RetN, ↓ev_Sub, ↓ev_For, ↓ev_body, ↓ev_iE, ↓ev_iR1, ↓ev_iR2, ↓ev_iZ, ↓ev_iEn, ↓ev_item, ↓ev_Lc, ↓ev_Yes, ↓ev_Par3, ↓ev_As2, ↓ev_As4, ↓ev_CV, ↓ev_Fld, ↓ev_Mk, ↓ev_Mk0, ↓ev_Mt, ↓ev_ForM, ↓ev_bodyM, ↓ev_gTmT, ↓ev_gTmR, ↓ev_AsgM, ↓ev_Star, ↓ev_Dc, ↓ev_iRv, kForM_e, kAsgM_e, kSt1_e, kSt2_e, kSt3_e, seqT, seqRf, popRf, insRf, inE, notInE, kDc_e, kRv_e, revT, revL, vOf_e, kO_e, kO2_e, kU_e, kCons_e, kCons2_e, kL_e, kIf_t, kIf_f, kB_e, kTr_e, kTr2_e, kAn_t, kAn_f, kOr_t, kOr_f, kNo_e, kNotB_e, kAnB_t, kAnB_f, kOrB_t, kOrB_f, kTup_e, kLst_e, kCP_e, kD_e, kML_e, kML2_e, kS1_e, kS2_e, kS3_e, kI_e, kCh1_e, kCh2_e, kCh3_t, kCh3_f, kAsg_e, kNx_e, kRet_e, kDrop_e, kSif_t, kSif_f, kSub1_e, kSub2_e, kSub3_e, kNxM_e, kFor_e, kBody_e, kIE_e, kSrc_e, kR1_e, kR2_e, kR2b_e, kZ1_e, kZ2_e, kEn_e, kMap_e, kMap2_e, kIt1_e, kIt2_t, kIt2_f, kSome_e, kLc_e, kLc2_e, kGc_e, par3_e, kAs2_e, kAs3_e, kAs4_e, kAs5_e, kAs6_e, fnOf2_e, fnV_e, kCV_e, kFld1_e, kFld2_e, kMk_e, kMk2_e, kMt_e, kMt2_e, kMt3_e, gFldE, setFE, metE, insAt_zero, insAt_succ, ob_s, ob_n, then_nx, then_rt, then_bk, then_ct, par2_e, turn_nx, turn_ct, turn_bk, turn_rt, runT_nil, runT_cons, mapT_nil, mapT_cons, finP_nx, finM_rt, finM_nx, addE, subE, negE, cmpE, ixT, truI, truB, at0, at1, at2, at3, List.getElem?_cons_zero, List.getElem?_cons_succ, List.set_cons_zero, List.set_cons_succ, List.length_cons, List.length_nil, Nat.reduceAdd, Nat.reduceLeDiff, if_true, if_false, reduceIte, reduceCtorEq, id_eq, Bool.not_true, Bool.not_false, Bool.false_eq_true, and_self, Int.reduceLE, Int.reduceLT, Int.reduceNeg, decide_true, decide_false, Option.toList_some, Option.toList_none, List.cons_append, List.nil_append, ixRf, tupRf, lenRf, listRf, isLstRf, appRf, revRf, setRf, itemsRf, itemsT, itemsL, zipT, zipRf, allRf, anyRf, sumRf, tupT, slRf, isiE, t2E, lenT, lstAt_zero, lstAt_succ, Option.isSome_some, Nat.reduceLT, Bool.or_true, Bool.or_false, Bool.true_or, Bool.false_or, gIsN, gNotN, D.isNon, wipeD, z, runL_cons g, runL_nil g, nb]
    · have eb : b = .non := hab.resolve_left ea
      have ed := hb eb
      subst eb ed
      have na : a.isNon = false := by cases a <;> first | rfl | exact absurd rfl ea
      simp only [↓ev_V, ↓ev_C, ↓ev_O, ↓ev_U, ↓ev_Nil, ↓ev_Cons, ↓ev_L, ↓ev_If, ↓ev_tV, ↓ev_tTr, ↓ev_tAn, ↓ev_tOr, ↓ev_tNo, ↓ev_NotB, ↓ev_AnB, ↓ev_OrB, ↓ev_Tup, ↓ev_Lst, ↓ev_CP, ↓ev_ML, ↓ev_Sli, ↓ev_oN, ↓ev_oS, ↓ev_Ch, ↓ev_gN, ↓ev_gsNil, ↓ev_gsCons, ↓ev_gT, ↓ev_Seq, ↓ev_Asg, ↓ev_Par, ↓ev_Ret, ↓ev_Drop, ↓ev_sIf, ↓ev_Next, ↓ev_Brk, ↓ev_Cont, ↓ev_RetN, ↓ev_Sub, ↓ev_For, ↓ev_body, ↓ev_iE, ↓ev_iR1, ↓ev_iR2, ↓ev_iZ, ↓ev_iEn, ↓ev_item, ↓ev_Lc, ↓ev_Yes, ↓ev_Par3, ↓ev_As2, ↓ev_As4, ↓ev_CV, ↓ev_Fld, ↓ev_Mk, ↓ev_Mk0, ↓ev_Mt, ↓ev_ForM, ↓ev_bodyM, ↓ev_gTmT, ↓ev_gTmR, ↓ev_AsgM, ↓ev_Star, ↓ev_Dc, ↓ev_iRv, kForM_e, kAsgM_e, kSt1_e, kSt2_e, kSt3_e, seqT, seqRf, popRf, insRf, inE, notInE, kDc_e, kRv_e, revT, revL, vOf_e, kO_e, kO2_e, kU_e, kCons_e, kCons2_e, kL_e, kIf_t, kIf_f, kB_e, kTr_e, kTr2_e, kAn_t, kAn_f, kOr_t, kOr_f, kNo_e, kNotB_e, kAnB_t, kAnB_f, kOrB_t, kOrB_f, kTup_e, kLst_e, kCP_e, kD_e, kML_e, kML2_e, kS1_e, kS2_e, kS3_e, kI_e, kCh1_e, kCh2_e, kCh3_t, kCh3_f, kAsg_e, kNx_e, kRet_e, kDrop_e, kSif_t, kSif_f, kSub1_e, kSub2_e, kSub3_e, kNxM_e, kFor_e, kBody_e, kIE_e, kSrc_e, kR1_e, kR2_e, kR2b_e, kZ1_e, kZ2_e, kEn_e, kMap_e, kMap2_e, kIt1_e, kIt2_t, kIt2_f, kSome_e, kLc_e, kLc2_e, kGc_e, par3_e, kAs2_e, kAs3_e, kAs4_e, kAs5_e, kAs6_e, fnOf2_e, fnV_e, kCV_e, kFld1_e, kFld2_e, kMk_e, kMk2_e, kMt_e, kMt2_e, kMt3_e, gFldE, setFE, metE, insAt_zero, insAt_succ, ob_s, ob_n, then_nx, then_rt, then_bk, then_ct, par2_e, turn_nx, turn_ct, turn_bk, turn_rt, runT_nil, runT_cons, mapT_nil, mapT_cons, finP_nx, finM_rt, finM_nx, addE, subE, negE, cmpE, ixT, truI, truB, at0, at1, at2, at3, List.getElem?_cons_zero, List.getElem?_cons_succ, List.set_cons_zero, List.set_cons_succ, List.length_cons, List.length_nil, Nat.reduceAdd, Nat.reduceLeDiff, if_true, if_false, reduceIte, reduceCtorEq, id_eq, Bool.not_true, Bool.not_false, Bool.false_eq_true, and_self, Int.reduceLE, Int.reduceLT, Int.reduceNeg, decide_true, decide_false, Option.toList_some, Option.toList_none, List.cons_append, List.nil_append, ixRf, tupRf, lenRf, listRf, isLstRf, appRf, revRf, setRf, itemsRf, itemsT, itemsL, zipT, zipRf, allRf, anyRf, sumRf, tupT, slRf, isiE, t2E, lenT, lstAt_zero, lstAt_succ, Option.isSome_some, Nat.reduceLT, Bool.or_true, Bool.or_false, Bool.true_or, Bool.false_or, gIsN, gNotN, D.isNon, wipeD, z, runL_cons g, runL_nil g, na]
theorem half_e {f p w : P3} {c : Rat} (hf : f.B 100) (hc : Rb 200 c) (hp : p.B 100) (hw : w.B 100) : m_leaf_stretch [eLeaf (eHalf f c) id3 no3, .tup [eP p, eP w]] = some (halfD (f.dot w) (c - f.dot p)) := by
  have s1 := slabs_half hf hc
  have s2 := slab_half hf hc hp hw
  have hx : ∀ s l : Rat, halfD s l = .non ∨ (∃ a b c d, halfD s l = .tup [a, b, c, d] ∧ (a = .non ∨ b = .non) ∧ (a = .non → c = .non) ∧ (b = .non → d = .non) ∧ D.isNon a = (match a with | .non => true | _ => false)) := fun s l => by
    unfold halfD
    split
    · split
      · exact .inr ⟨_, _, _, _, rfl, .inl rfl, fun _ => rfl, fun _ => rfl, rfl⟩
      · exact .inl rfl
    · split
      · exact .inr ⟨_, _, _, _, rfl, .inl rfl, fun _ => rfl, (fun z => by cases z), rfl⟩
      · exact .inr ⟨_, _, _, _, rfl, .inr rfl, (fun z => by cases z), fun _ => rfl, rfl⟩
  have hlo : D.lo 0 (halfD (f.dot w) (c - f.dot p)) = true := by
    unfold halfD
    split
    · split <;> rfl
    · split <;> rfl
  have hm := met_one (hx (f.dot w) (c - f.dot p)) (.lst [.tup [eP f, .non, eF c, .non, .int 0]]) 2
  have i1 : ∀ M, gIx (eLeaf (eHalf f c) id3 no3) (.int 1) M = some (eHalf f c, M) := fun _ => rfl
  have j0 : ∀ M, gIx (eHalf f c) (.int 0) M = some (.str "half", M) := fun _ => rfl
  have g : ([.lst [.tup [eP f, .non, eF c, .non, .int 0]]] : Mem)[0]? = some (.lst [.tup [eP f, .non, eF c, .non, .int 0]]) := rfl
  rw [e_leaf_stretch _ _ rfl]
  unfold b_leaf_stretch
  simp only [↓ev_V, ↓ev_C, ↓ev_O, ↓ev_U, ↓ev_Nil, ↓ev_Cons, ↓ev_L, ↓ev_If, ↓ev_tV, ↓ev_tTr, ↓ev_tAn, ↓ev_tOr, ↓ev_tNo, ↓ev_NotB, ↓ev_AnB, ↓ev_OrB, ↓ev_Tup, ↓ev_Lst, ↓ev_CP, ↓ev_ML, ↓ev_Sli, ↓ev_oN, ↓ev_oS, ↓ev_Ch, ↓ev_gN, ↓ev_gsNil, ↓ev_gsCons, ↓ev_gT, ↓ev_Seq, ↓ev_Asg, ↓ev_Par, ↓ev_Ret, ↓ev_Drop, ↓ev_sIf, ↓ev_Next, ↓ev_Brk, ↓ev_Cont, ↓ev_RetN, ↓ev_Sub, ↓ev_For, ↓ev_body, ↓ev_iE, ↓ev_iR1, ↓ev_iR2, ↓ev_iZ, ↓ev_iEn, ↓ev_item, ↓ev_Lc, ↓ev_Yes, ↓ev_Par3, ↓ev_As2, ↓ev_As4, ↓ev_CV, ↓ev_Fld, ↓ev_Mk, ↓ev_Mk0, ↓ev_Mt, ↓ev_ForM, ↓ev_bodyM, ↓ev_gTmT, ↓ev_gTmR, ↓ev_AsgM, ↓ev_Star, ↓ev_Dc, ↓ev_iRv, kForM_e, kAsgM_e, kSt1_e, kSt2_e, kSt3_e, seqT, seqRf, popRf, insRf, inE, notInE, kDc_e, kRv_e, revT, revL, vOf_e, kO_e, kO2_e, kU_e, kCons_e, kCons2_e, kL_e, kIf_t, kIf_f, kB_e, kTr_e, kTr2_e, kAn_t, kAn_f, kOr_t, kOr_f, kNo_e, kNotB_e, kAnB_t, kAnB_f, kOrB_t, kOrB_f, kTup_e, kLst_e, kCP_e, kD_e, kML_e, kML2_e, kS1_e, kS2_e, kS3_e, kI_e, kCh1_e, kCh2_e, kCh3_t, kCh3_f, kAsg_e, kNx_e, kRet_e, kDrop_e, kSif_t, kSif_f, kSub1_e, kSub2_e, kSub3_e, kNxM_e, kFor_e, kBody_e, kIE_e, kSrc_e, kR1_e, kR2_e, kR2b_e, kZ1_e, kZ2_e, kEn_e, kMap_e, kMap2_e, kIt1_e, kIt2_t, kIt2_f, kSome_e, kLc_e, kLc2_e, kGc_e, par3_e, kAs2_e, kAs3_e, kAs4_e, kAs5_e, kAs6_e, fnOf2_e, fnV_e, kCV_e, kFld1_e, kFld2_e, kMk_e, kMk2_e, kMt_e, kMt2_e, kMt3_e, gFldE, setFE, metE, insAt_zero, insAt_succ, ob_s, ob_n, then_nx, then_rt, then_bk, then_ct, par2_e, turn_nx, turn_ct, turn_bk, turn_rt, runT_nil, runT_cons, mapT_nil, mapT_cons, finP_nx, finM_rt, finM_nx, addE, subE, negE, cmpE, ixT, truI, truB, at0, at1, at2, at3, List.getElem?_cons_zero, List.getElem?_cons_succ, List.set_cons_zero, List.set_cons_succ, List.length_cons, List.length_nil, Nat.reduceAdd, Nat.reduceLeDiff, if_true, if_false, reduceIte, reduceCtorEq, id_eq, Bool.not_true, Bool.not_false, Bool.false_eq_true, and_self, Int.reduceLE, Int.reduceLT, Int.reduceNeg, decide_true, decide_false, Option.toList_some, Option.toList_none, List.cons_append, List.nil_append, ixRf, tupRf, lenRf, listRf, isLstRf, appRf, revRf, setRf, itemsRf, itemsT, itemsL, zipT, zipRf, allRf, anyRf, sumRf, tupT, slRf, isiE, t2E, lenT, lstAt_zero, lstAt_succ, Option.isSome_some, Nat.reduceLT, Bool.or_true, Bool.or_false, Bool.true_or, Bool.false_or, gIsN, gNotN, D.isNon, wipeD, i1, j0, eq_hb, s1, mapL_cons g, mapL_nil g, s2, hm]
  exact finP_rt _ _ hlo

/-! ### boxes along rays: flat moments compared, slabs -/
theorem eqF (q r : Rat) (M : Mem) : gEq (eF q) (eF r) M = some (.bl (decide (q = r)), M) := eq_fr q r false M
theorem mul00 (M : Mem) : gMul (.int (0 : Rat).num) (.int (0 : Rat).num) M = some (.int 0, M) := mulE (mul_bt (m := 1) (n := 1) (by unfold Bt; decide) (by unfold Bt; decide) (by decide)) M
def sgn (q : Rat) : Int := if q < 0 then -1 else if 0 < q then 1 else 0
theorem gap_lt (t u : Rat) : t.num * (u.den : Int) - u.num * (t.den : Int) < 0 ↔ t - u < 0 := by
  have := rat_lt t u
  constructor
  · intro h
    have := this.mp (by omega)
    grind
  · intro h
    have := this.mpr (by grind)
    omega
theorem gap_gt (t u : Rat) : 0 < t.num * (u.den : Int) - u.num * (t.den : Int) ↔ 0 < t - u := by
  have := rat_lt u t
  constructor
  · intro h
    have := this.mp (by omega)
    grind
  · intro h
    have := this.mpr (by grind)
    omega
theorem compare_flat {m n : Nat} {t u : Rat} (ht : Rb m t) (hu : Rb n u) (h : m + n ≤ 9000) : m_compare [mom t, mom u] = some (.int (sgn (t - u))) := by
  obtain ⟨h1, h2, _⟩ := two_rb ht hu h
  have ts : tb_sign 0 = some m_Whole_sign := rfl
  rw [e_compare _ _ rfl]
  unfold b_compare sgn
  by_cases c1 : t - u < 0
  · have d1 := (gap_lt t u).mpr c1
    simp only [↓ev_V, ↓ev_C, ↓ev_O, ↓ev_U, ↓ev_Nil, ↓ev_Cons, ↓ev_L, ↓ev_If, ↓ev_tV, ↓ev_tTr, ↓ev_tAn, ↓ev_tOr, ↓ev_tNo, ↓ev_NotB, ↓ev_AnB, ↓ev_OrB, ↓ev_Tup, ↓ev_Lst, ↓ev_CP, ↓ev_ML, ↓ev_Sli, ↓ev_oN, ↓ev_oS, ↓ev_Ch, ↓ev_gN, ↓ev_gsNil, ↓ev_gsCons, ↓ev_gT, ↓ev_Seq, ↓ev_Asg, ↓ev_Par, ↓ev_Ret, ↓ev_Drop, ↓ev_sIf, ↓ev_Next, ↓ev_Brk, ↓ev_Cont, ↓ev_RetN, ↓ev_Sub, ↓ev_For, ↓ev_body, ↓ev_iE, ↓ev_iR1, ↓ev_iR2, ↓ev_iZ, ↓ev_iEn, ↓ev_item, ↓ev_Lc, ↓ev_Yes, ↓ev_Par3, ↓ev_As2, ↓ev_As4, ↓ev_CV, ↓ev_Fld, ↓ev_Mk, ↓ev_Mk0, ↓ev_Mt, ↓ev_ForM, ↓ev_bodyM, ↓ev_gTmT, ↓ev_gTmR, ↓ev_AsgM, ↓ev_Star, ↓ev_Dc, ↓ev_iRv, kForM_e, kAsgM_e, kSt1_e, kSt2_e, kSt3_e, seqT, seqRf, popRf, insRf, inE, notInE, kDc_e, kRv_e, revT, revL, vOf_e, kO_e, kO2_e, kU_e, kCons_e, kCons2_e, kL_e, kIf_t, kIf_f, kB_e, kTr_e, kTr2_e, kAn_t, kAn_f, kOr_t, kOr_f, kNo_e, kNotB_e, kAnB_t, kAnB_f, kOrB_t, kOrB_f, kTup_e, kLst_e, kCP_e, kD_e, kML_e, kML2_e, kS1_e, kS2_e, kS3_e, kI_e, kCh1_e, kCh2_e, kCh3_t, kCh3_f, kAsg_e, kNx_e, kRet_e, kDrop_e, kSif_t, kSif_f, kSub1_e, kSub2_e, kSub3_e, kNxM_e, kFor_e, kBody_e, kIE_e, kSrc_e, kR1_e, kR2_e, kR2b_e, kZ1_e, kZ2_e, kEn_e, kMap_e, kMap2_e, kIt1_e, kIt2_t, kIt2_f, kSome_e, kLc_e, kLc2_e, kGc_e, par3_e, kAs2_e, kAs3_e, kAs4_e, kAs5_e, kAs6_e, fnOf2_e, fnV_e, kCV_e, kFld1_e, kFld2_e, kMk_e, kMk2_e, kMt_e, kMt2_e, kMt3_e, gFldE, setFE, metE, insAt_zero, insAt_succ, ob_s, ob_n, then_nx, then_rt, then_bk, then_ct, par2_e, turn_nx, turn_ct, turn_bk, turn_rt, runT_nil, runT_cons, mapT_nil, mapT_cons, finP_nx, finM_rt, finM_nx, addE, subE, negE, cmpE, ixT, truI, truB, at0, at1, at2, at3, List.getElem?_cons_zero, List.getElem?_cons_succ, List.set_cons_zero, List.set_cons_succ, List.length_cons, List.length_nil, Nat.reduceAdd, Nat.reduceLeDiff, if_true, if_false, reduceIte, reduceCtorEq, id_eq, Bool.not_true, Bool.not_false, Bool.false_eq_true, and_self, Int.reduceLE, Int.reduceLT, Int.reduceNeg, decide_true, decide_false, Option.toList_some, Option.toList_none, List.cons_append, List.nil_append, ixRf, tupRf, lenRf, listRf, isLstRf, appRf, revRf, setRf, itemsRf, itemsT, itemsL, zipT, zipRf, allRf, anyRf, sumRf, tupT, slRf, isiE, t2E, lenT, lstAt_zero, lstAt_succ, Option.isSome_some, Nat.reduceLT, Bool.or_true, Bool.or_false, Bool.true_or, Bool.false_or, gIsN, gNotN, D.isNon, wipeD, mom, ix_eF0, ix_eF1, mulE h1, mulE h2, mul00, eqIb, beq_self_eq_true, ts, List.lookup_nil, e_Whole_sign, b_Whole_sign, d1, if_pos c1]
    exact finP_rt _ _ rfl
  · have d1 : ¬ (t.num * (u.den : Int) - u.num * (t.den : Int) < 0) := fun z => c1 ((gap_lt t u).mp z)
    by_cases c2 : 0 < t - u
    · have d2 := (gap_gt t u).mpr c2
      simp only [↓ev_V, ↓ev_C, ↓ev_O, ↓ev_U, ↓ev_Nil, ↓ev_Cons, ↓ev_L, ↓ev_If, ↓ev_tV, ↓ev_tTr, ↓ev_tAn, ↓ev_tOr, ↓ev_tNo, ↓ev_NotB, ↓ev_AnB, ↓ev_OrB, ↓ev_Tup, ↓ev_Lst, ↓ev_CP, ↓ev_ML, ↓ev_Sli, ↓ev_oN, ↓ev_oS, ↓ev_Ch, ↓ev_gN, ↓ev_gsNil, ↓ev_gsCons, ↓ev_gT, ↓ev_Seq, ↓ev_Asg, ↓ev_Par, ↓ev_Ret, ↓ev_Drop, ↓ev_sIf, ↓ev_Next, ↓ev_Brk, ↓ev_Cont, ↓ev_RetN, ↓ev_Sub, ↓ev_For, ↓ev_body, ↓ev_iE, ↓ev_iR1, ↓ev_iR2, ↓ev_iZ, ↓ev_iEn, ↓ev_item, ↓ev_Lc, ↓ev_Yes, ↓ev_Par3, ↓ev_As2, ↓ev_As4, ↓ev_CV, ↓ev_Fld, ↓ev_Mk, ↓ev_Mk0, ↓ev_Mt, ↓ev_ForM, ↓ev_bodyM, ↓ev_gTmT, ↓ev_gTmR, ↓ev_AsgM, ↓ev_Star, ↓ev_Dc, ↓ev_iRv, kForM_e, kAsgM_e, kSt1_e, kSt2_e, kSt3_e, seqT, seqRf, popRf, insRf, inE, notInE, kDc_e, kRv_e, revT, revL, vOf_e, kO_e, kO2_e, kU_e, kCons_e, kCons2_e, kL_e, kIf_t, kIf_f, kB_e, kTr_e, kTr2_e, kAn_t, kAn_f, kOr_t, kOr_f, kNo_e, kNotB_e, kAnB_t, kAnB_f, kOrB_t, kOrB_f, kTup_e, kLst_e, kCP_e, kD_e, kML_e, kML2_e, kS1_e, kS2_e, kS3_e, kI_e, kCh1_e, kCh2_e, kCh3_t, kCh3_f, kAsg_e, kNx_e, kRet_e, kDrop_e, kSif_t, kSif_f, kSub1_e, kSub2_e, kSub3_e, kNxM_e, kFor_e, kBody_e, kIE_e, kSrc_e, kR1_e, kR2_e, kR2b_e, kZ1_e, kZ2_e, kEn_e, kMap_e, kMap2_e, kIt1_e, kIt2_t, kIt2_f, kSome_e, kLc_e, kLc2_e, kGc_e, par3_e, kAs2_e, kAs3_e, kAs4_e, kAs5_e, kAs6_e, fnOf2_e, fnV_e, kCV_e, kFld1_e, kFld2_e, kMk_e, kMk2_e, kMt_e, kMt2_e, kMt3_e, gFldE, setFE, metE, insAt_zero, insAt_succ, ob_s, ob_n, then_nx, then_rt, then_bk, then_ct, par2_e, turn_nx, turn_ct, turn_bk, turn_rt, runT_nil, runT_cons, mapT_nil, mapT_cons, finP_nx, finM_rt, finM_nx, addE, subE, negE, cmpE, ixT, truI, truB, at0, at1, at2, at3, List.getElem?_cons_zero, List.getElem?_cons_succ, List.set_cons_zero, List.set_cons_succ, List.length_cons, List.length_nil, Nat.reduceAdd, Nat.reduceLeDiff, if_true, if_false, reduceIte, reduceCtorEq, id_eq, Bool.not_true, Bool.not_false, Bool.false_eq_true, and_self, Int.reduceLE, Int.reduceLT, Int.reduceNeg, decide_true, decide_false, Option.toList_some, Option.toList_none, List.cons_append, List.nil_append, ixRf, tupRf, lenRf, listRf, isLstRf, appRf, revRf, setRf, itemsRf, itemsT, itemsL, zipT, zipRf, allRf, anyRf, sumRf, tupT, slRf, isiE, t2E, lenT, lstAt_zero, lstAt_succ, Option.isSome_some, Nat.reduceLT, Bool.or_true, Bool.or_false, Bool.true_or, Bool.false_or, gIsN, gNotN, D.isNon, wipeD, mom, ix_eF0, ix_eF1, mulE h1, mulE h2, mul00, eqIb, beq_self_eq_true, ts, List.lookup_nil, e_Whole_sign, b_Whole_sign, d1, d2, if_neg c1, if_pos c2]
      exact finP_rt _ _ rfl
    · have d2 : ¬ (0 < t.num * (u.den : Int) - u.num * (t.den : Int)) := fun z => c2 ((gap_gt t u).mp z)
      simp only [↓ev_V, ↓ev_C, ↓ev_O, ↓ev_U, ↓ev_Nil, ↓ev_Cons, ↓ev_L, ↓ev_If, ↓ev_tV, ↓ev_tTr, ↓ev_tAn, ↓ev_tOr, ↓ev_tNo, ↓ev_NotB, ↓ev_AnB, ↓ev_OrB, ↓ev_Tup, ↓ev_Lst, ↓ev_CP, ↓ev_ML, ↓ev_Sli, ↓ev_oN, ↓ev_oS, ↓ev_Ch, ↓ev_gN, ↓ev_gsNil, ↓ev_gsCons, ↓ev_gT, ↓ev_Seq, ↓ev_Asg, ↓ev_Par, ↓ev_Ret, ↓ev_Drop, ↓ev_sIf, ↓ev_Next, ↓ev_Brk, ↓ev_Cont, ↓ev_RetN, ↓ev_Sub, ↓ev_For, ↓ev_body, ↓ev_iE, ↓ev_iR1, ↓ev_iR2, ↓ev_iZ, ↓ev_iEn, ↓ev_item, ↓ev_Lc, ↓ev_Yes, ↓ev_Par3, ↓ev_As2, ↓ev_As4, ↓ev_CV, ↓ev_Fld, ↓ev_Mk, ↓ev_Mk0, ↓ev_Mt, ↓ev_ForM, ↓ev_bodyM, ↓ev_gTmT, ↓ev_gTmR, ↓ev_AsgM, ↓ev_Star, ↓ev_Dc, ↓ev_iRv, kForM_e, kAsgM_e, kSt1_e, kSt2_e, kSt3_e, seqT, seqRf, popRf, insRf, inE, notInE, kDc_e, kRv_e, revT, revL, vOf_e, kO_e, kO2_e, kU_e, kCons_e, kCons2_e, kL_e, kIf_t, kIf_f, kB_e, kTr_e, kTr2_e, kAn_t, kAn_f, kOr_t, kOr_f, kNo_e, kNotB_e, kAnB_t, kAnB_f, kOrB_t, kOrB_f, kTup_e, kLst_e, kCP_e, kD_e, kML_e, kML2_e, kS1_e, kS2_e, kS3_e, kI_e, kCh1_e, kCh2_e, kCh3_t, kCh3_f, kAsg_e, kNx_e, kRet_e, kDrop_e, kSif_t, kSif_f, kSub1_e, kSub2_e, kSub3_e, kNxM_e, kFor_e, kBody_e, kIE_e, kSrc_e, kR1_e, kR2_e, kR2b_e, kZ1_e, kZ2_e, kEn_e, kMap_e, kMap2_e, kIt1_e, kIt2_t, kIt2_f, kSome_e, kLc_e, kLc2_e, kGc_e, par3_e, kAs2_e, kAs3_e, kAs4_e, kAs5_e, kAs6_e, fnOf2_e, fnV_e, kCV_e, kFld1_e, kFld2_e, kMk_e, kMk2_e, kMt_e, kMt2_e, kMt3_e, gFldE, setFE, metE, insAt_zero, insAt_succ, ob_s, ob_n, then_nx, then_rt, then_bk, then_ct, par2_e, turn_nx, turn_ct, turn_bk, turn_rt, runT_nil, runT_cons, mapT_nil, mapT_cons, finP_nx, finM_rt, finM_nx, addE, subE, negE, cmpE, ixT, truI, truB, at0, at1, at2, at3, List.getElem?_cons_zero, List.getElem?_cons_succ, List.set_cons_zero, List.set_cons_succ, List.length_cons, List.length_nil, Nat.reduceAdd, Nat.reduceLeDiff, if_true, if_false, reduceIte, reduceCtorEq, id_eq, Bool.not_true, Bool.not_false, Bool.false_eq_true, and_self, Int.reduceLE, Int.reduceLT, Int.reduceNeg, decide_true, decide_false, Option.toList_some, Option.toList_none, List.cons_append, List.nil_append, ixRf, tupRf, lenRf, listRf, isLstRf, appRf, revRf, setRf, itemsRf, itemsT, itemsL, zipT, zipRf, allRf, anyRf, sumRf, tupT, slRf, isiE, t2E, lenT, lstAt_zero, lstAt_succ, Option.isSome_some, Nat.reduceLT, Bool.or_true, Bool.or_false, Bool.true_or, Bool.false_or, gIsN, gNotN, D.isNon, wipeD, mom, ix_eF0, ix_eF1, mulE h1, mulE h2, mul00, eqIb, beq_self_eq_true, ts, List.lookup_nil, e_Whole_sign, b_Whole_sign, d1, d2, if_neg c1, if_neg c2]
      exact finP_rt _ _ rfl
theorem sgn_gt (q : Rat) : (0 < sgn q) = (0 < q) := by
  unfold sgn
  by_cases h : q < 0
  · rw [if_pos h]
    exact propext ⟨fun z => absurd z (by decide), fun z => by grind⟩
  · rw [if_neg h]
    by_cases h2 : 0 < q
    · rw [if_pos h2]
      exact propext ⟨fun _ => h2, fun _ => by decide⟩
    · rw [if_neg h2]
      exact propext ⟨fun z => absurd z (by decide), fun z => absurd z h2⟩
theorem sgn_lt (q : Rat) : (sgn q < 0) = (q < 0) := by
  unfold sgn
  by_cases h : q < 0
  · rw [if_pos h]
    exact propext ⟨fun _ => h, fun _ => by decide⟩
  · rw [if_neg h]
    by_cases h2 : 0 < q
    · rw [if_pos h2]
      exact propext ⟨fun z => absurd z (by decide), fun z => absurd z h⟩
    · rw [if_neg h2]
      exact propext ⟨fun z => absurd z (by decide), fun z => absurd z h⟩
theorem sgn_ge (q : Rat) : (0 ≤ sgn q) = ¬ (q < 0) := by
  rw [← sgn_lt]
  exact propext ⟨fun z => by omega, fun z => by omega⟩
theorem sgn_eq (q : Rat) : (sgn q == 0) = decide (q = 0) := by
  unfold sgn
  by_cases h : q < 0
  · rw [if_pos h, decide_eq_false (by grind)]
    rfl
  · rw [if_neg h]
    by_cases h2 : 0 < q
    · rw [if_pos h2, decide_eq_false (by grind)]
      rfl
    · rw [if_neg h2, decide_eq_true (by grind)]
      rfl
theorem sg_e (q : Rat) : m_sign [eF q] = some (.int (sgn q)) := sign_e q
/-- what a slab leaves of a ray -/
inductive Spn where
  | mis
  | alw
  | bnd (t u : Rat) (i j : Int)
def eSp : Spn → D
  | .mis => .non
  | .alw => .tup [.non, .non, .non, .non]
  | .bnd t u i j => .tup [mom t, mom u, .int i, .int j]
def spanOf (s a b : Rat) (i j : Int) : Spn := if s = 0 then (if 0 < b ∧ a < 0 then .alw else .mis) else if 0 < s then .bnd (a / s) (b / s) i j else .bnd (b / s) (a / s) j i
theorem slab_box {n1 n2 n3 n4 : Nat} {f p w : P3} {lo hi : Rat} {i j : Int} (hf : f.B n1) (hp : p.B n2) (hw : w.B n3) (hlo : Rb n4 lo) (hhi : Rb n4 hi) (k1 : n1 ≤ 400) (k2 : n2 ≤ 400) (k3 : n3 ≤ 400) (k4 : n4 ≤ 2000) :
    m_slab_stretch [.tup [eP f, eF lo, eF hi, .int i, .int j], .tup [eP p, eP w]] = some (eSp (spanOf (f.dot w) (lo - f.dot p) (hi - f.dot p) i j)) := by
  have d1 := dot_e hf hp (by omega)
  have d2 := dot_e hf hw (by omega)
  have b1 := Rb.dot hf hp
  have b2 := Rb.dot hf hw
  have m1 := minus_e hlo b1 (by omega)
  have m2 := minus_e hhi b1 (by omega)
  have b3 := hlo.sub b1
  have b4 := hhi.sub b1
  have nn : ∀ (q : Rat) M, gIsN (eF q) .non M = some (.bl false, M) := fun _ _ => rfl
  generalize f.dot p = u at *
  generalize f.dot w = s at *
  rw [e_slab_stretch _ _ rfl]
  unfold b_slab_stretch spanOf
  by_cases hs : s = 0
  · rw [if_pos hs]
    by_cases h1 : 0 < hi - u
    · by_cases h2 : lo - u < 0
      · rw [if_pos ⟨h1, h2⟩]
        simp only [↓nn, ↓ev_V, ↓ev_C, ↓ev_O, ↓ev_U, ↓ev_Nil, ↓ev_Cons, ↓ev_L, ↓ev_If, ↓ev_tV, ↓ev_tTr, ↓ev_tAn, ↓ev_tOr, ↓ev_tNo, ↓ev_NotB, ↓ev_AnB, ↓ev_OrB, ↓ev_Tup, ↓ev_Lst, ↓ev_CP, ↓ev_ML, ↓ev_Sli, ↓ev_oN, ↓ev_oS, ↓ev_Ch, ↓ev_gN, ↓ev_gsNil, ↓ev_gsCons, ↓ev_gT, ↓ev_Seq, ↓ev_Asg, ↓ev_Par, ↓ev_Ret, ↓ev_Drop, ↓ev_sIf, ↓ev_Next, ↓ev_Brk, ↓ev_Cont, ↓ev_RetN, ↓ev_Sub, ↓ev_For, ↓ev_body, ↓ev_iE, ↓ev_iR1, ↓ev_iR2, ↓ev_iZ, ↓ev_iEn, ↓ev_item, ↓ev_Lc, ↓ev_Yes, ↓ev_Par3, ↓ev_As2, ↓ev_As4, ↓ev_CV, ↓ev_Fld, ↓ev_Mk, ↓ev_Mk0, ↓ev_Mt, ↓ev_ForM, ↓ev_bodyM, ↓ev_gTmT, ↓ev_gTmR, ↓ev_AsgM, ↓ev_Star, ↓ev_Dc, ↓ev_iRv, kForM_e, kAsgM_e, kSt1_e, kSt2_e, kSt3_e, seqT, seqRf, popRf, insRf, inE, notInE, kDc_e, kRv_e, revT, revL, vOf_e, kO_e, kO2_e, kU_e, kCons_e, kCons2_e, kL_e, kIf_t, kIf_f, kB_e, kTr_e, kTr2_e, kAn_t, kAn_f, kOr_t, kOr_f, kNo_e, kNotB_e, kAnB_t, kAnB_f, kOrB_t, kOrB_f, kTup_e, kLst_e, kCP_e, kD_e, kML_e, kML2_e, kS1_e, kS2_e, kS3_e, kI_e, kCh1_e, kCh2_e, kCh3_t, kCh3_f, kAsg_e, kNx_e, kRet_e, kDrop_e, kSif_t, kSif_f, kSub1_e, kSub2_e, kSub3_e, kNxM_e, kFor_e, kBody_e, kIE_e, kSrc_e, kR1_e, kR2_e, kR2b_e, kZ1_e, kZ2_e, kEn_e, kMap_e, kMap2_e, kIt1_e, kIt2_t, kIt2_f, kSome_e, kLc_e, kLc2_e, kGc_e, par3_e, kAs2_e, kAs3_e, kAs4_e, kAs5_e, kAs6_e, fnOf2_e, fnV_e, kCV_e, kFld1_e, kFld2_e, kMk_e, kMk2_e, kMt_e, kMt2_e, kMt3_e, gFldE, setFE, metE, insAt_zero, insAt_succ, ob_s, ob_n, then_nx, then_rt, then_bk, then_ct, par2_e, turn_nx, turn_ct, turn_bk, turn_rt, runT_nil, runT_cons, mapT_nil, mapT_cons, finP_nx, finM_rt, finM_nx, addE, subE, negE, cmpE, ixT, truI, truB, at0, at1, at2, at3, List.getElem?_cons_zero, List.getElem?_cons_succ, List.set_cons_zero, List.set_cons_succ, List.length_cons, List.length_nil, Nat.reduceAdd, Nat.reduceLeDiff, if_true, if_false, reduceIte, reduceCtorEq, id_eq, Bool.not_true, Bool.not_false, Bool.false_eq_true, and_self, Int.reduceLE, Int.reduceLT, Int.reduceNeg, decide_true, decide_false, Option.toList_some, Option.toList_none, List.cons_append, List.nil_append, ixRf, tupRf, lenRf, listRf, isLstRf, appRf, revRf, setRf, itemsRf, itemsT, itemsL, zipT, zipRf, allRf, anyRf, sumRf, tupT, slRf, isiE, t2E, lenT, lstAt_zero, lstAt_succ, Option.isSome_some, Nat.reduceLT, Bool.or_true, Bool.or_false, Bool.true_or, Bool.false_or, gIsN, gNotN, D.isNon, wipeD, d1, d2, m1, m2, sg_e, eqIb, sgn_eq, sgn_gt, sgn_lt, decide_eq_true hs, decide_eq_true h1, decide_eq_true h2]
        exact finP_rt _ _ rfl
      · rw [if_neg fun z => h2 z.2]
        simp only [↓nn, ↓ev_V, ↓ev_C, ↓ev_O, ↓ev_U, ↓ev_Nil, ↓ev_Cons, ↓ev_L, ↓ev_If, ↓ev_tV, ↓ev_tTr, ↓ev_tAn, ↓ev_tOr, ↓ev_tNo, ↓ev_NotB, ↓ev_AnB, ↓ev_OrB, ↓ev_Tup, ↓ev_Lst, ↓ev_CP, ↓ev_ML, ↓ev_Sli, ↓ev_oN, ↓ev_oS, ↓ev_Ch, ↓ev_gN, ↓ev_gsNil, ↓ev_gsCons, ↓ev_gT, ↓ev_Seq, ↓ev_Asg, ↓ev_Par, ↓ev_Ret, ↓ev_Drop, ↓ev_sIf, ↓ev_Next, ↓ev_Brk, ↓ev_Cont, ↓ev_RetN, ↓ev_Sub, ↓ev_For, ↓ev_body, ↓ev_iE, ↓ev_iR1, ↓ev_iR2, ↓ev_iZ, ↓ev_iEn, ↓ev_item, ↓ev_Lc, ↓ev_Yes, ↓ev_Par3, ↓ev_As2, ↓ev_As4, ↓ev_CV, ↓ev_Fld, ↓ev_Mk, ↓ev_Mk0, ↓ev_Mt, ↓ev_ForM, ↓ev_bodyM, ↓ev_gTmT, ↓ev_gTmR, ↓ev_AsgM, ↓ev_Star, ↓ev_Dc, ↓ev_iRv, kForM_e, kAsgM_e, kSt1_e, kSt2_e, kSt3_e, seqT, seqRf, popRf, insRf, inE, notInE, kDc_e, kRv_e, revT, revL, vOf_e, kO_e, kO2_e, kU_e, kCons_e, kCons2_e, kL_e, kIf_t, kIf_f, kB_e, kTr_e, kTr2_e, kAn_t, kAn_f, kOr_t, kOr_f, kNo_e, kNotB_e, kAnB_t, kAnB_f, kOrB_t, kOrB_f, kTup_e, kLst_e, kCP_e, kD_e, kML_e, kML2_e, kS1_e, kS2_e, kS3_e, kI_e, kCh1_e, kCh2_e, kCh3_t, kCh3_f, kAsg_e, kNx_e, kRet_e, kDrop_e, kSif_t, kSif_f, kSub1_e, kSub2_e, kSub3_e, kNxM_e, kFor_e, kBody_e, kIE_e, kSrc_e, kR1_e, kR2_e, kR2b_e, kZ1_e, kZ2_e, kEn_e, kMap_e, kMap2_e, kIt1_e, kIt2_t, kIt2_f, kSome_e, kLc_e, kLc2_e, kGc_e, par3_e, kAs2_e, kAs3_e, kAs4_e, kAs5_e, kAs6_e, fnOf2_e, fnV_e, kCV_e, kFld1_e, kFld2_e, kMk_e, kMk2_e, kMt_e, kMt2_e, kMt3_e, gFldE, setFE, metE, insAt_zero, insAt_succ, ob_s, ob_n, then_nx, then_rt, then_bk, then_ct, par2_e, turn_nx, turn_ct, turn_bk, turn_rt, runT_nil, runT_cons, mapT_nil, mapT_cons, finP_nx, finM_rt, finM_nx, addE, subE, negE, cmpE, ixT, truI, truB, at0, at1, at2, at3, List.getElem?_cons_zero, List.getElem?_cons_succ, List.set_cons_zero, List.set_cons_succ, List.length_cons, List.length_nil, Nat.reduceAdd, Nat.reduceLeDiff, if_true, if_false, reduceIte, reduceCtorEq, id_eq, Bool.not_true, Bool.not_false, Bool.false_eq_true, and_self, Int.reduceLE, Int.reduceLT, Int.reduceNeg, decide_true, decide_false, Option.toList_some, Option.toList_none, List.cons_append, List.nil_append, ixRf, tupRf, lenRf, listRf, isLstRf, appRf, revRf, setRf, itemsRf, itemsT, itemsL, zipT, zipRf, allRf, anyRf, sumRf, tupT, slRf, isiE, t2E, lenT, lstAt_zero, lstAt_succ, Option.isSome_some, Nat.reduceLT, Bool.or_true, Bool.or_false, Bool.true_or, Bool.false_or, gIsN, gNotN, D.isNon, wipeD, d1, d2, m1, m2, sg_e, eqIb, sgn_eq, sgn_gt, sgn_lt, decide_eq_true hs, decide_eq_true h1, decide_eq_false h2]
        exact finP_rt _ _ rfl
    · rw [if_neg fun z => h1 z.1]
      simp only [↓nn, ↓ev_V, ↓ev_C, ↓ev_O, ↓ev_U, ↓ev_Nil, ↓ev_Cons, ↓ev_L, ↓ev_If, ↓ev_tV, ↓ev_tTr, ↓ev_tAn, ↓ev_tOr, ↓ev_tNo, ↓ev_NotB, ↓ev_AnB, ↓ev_OrB, ↓ev_Tup, ↓ev_Lst, ↓ev_CP, ↓ev_ML, ↓ev_Sli, ↓ev_oN, ↓ev_oS, ↓ev_Ch, ↓ev_gN, ↓ev_gsNil, ↓ev_gsCons, ↓ev_gT, ↓ev_Seq, ↓ev_Asg, ↓ev_Par, ↓ev_Ret, ↓ev_Drop, ↓ev_sIf, ↓ev_Next, ↓ev_Brk, ↓ev_Cont, ↓ev_RetN, ↓ev_Sub, ↓ev_For, ↓ev_body, ↓ev_iE, ↓ev_iR1, ↓ev_iR2, ↓ev_iZ, ↓ev_iEn, ↓ev_item, ↓ev_Lc, ↓ev_Yes, ↓ev_Par3, ↓ev_As2, ↓ev_As4, ↓ev_CV, ↓ev_Fld, ↓ev_Mk, ↓ev_Mk0, ↓ev_Mt, ↓ev_ForM, ↓ev_bodyM, ↓ev_gTmT, ↓ev_gTmR, ↓ev_AsgM, ↓ev_Star, ↓ev_Dc, ↓ev_iRv, kForM_e, kAsgM_e, kSt1_e, kSt2_e, kSt3_e, seqT, seqRf, popRf, insRf, inE, notInE, kDc_e, kRv_e, revT, revL, vOf_e, kO_e, kO2_e, kU_e, kCons_e, kCons2_e, kL_e, kIf_t, kIf_f, kB_e, kTr_e, kTr2_e, kAn_t, kAn_f, kOr_t, kOr_f, kNo_e, kNotB_e, kAnB_t, kAnB_f, kOrB_t, kOrB_f, kTup_e, kLst_e, kCP_e, kD_e, kML_e, kML2_e, kS1_e, kS2_e, kS3_e, kI_e, kCh1_e, kCh2_e, kCh3_t, kCh3_f, kAsg_e, kNx_e, kRet_e, kDrop_e, kSif_t, kSif_f, kSub1_e, kSub2_e, kSub3_e, kNxM_e, kFor_e, kBody_e, kIE_e, kSrc_e, kR1_e, kR2_e, kR2b_e, kZ1_e, kZ2_e, kEn_e, kMap_e, kMap2_e, kIt1_e, kIt2_t, kIt2_f, kSome_e, kLc_e, kLc2_e, kGc_e, par3_e, kAs2_e, kAs3_e, kAs4_e, kAs5_e, kAs6_e, fnOf2_e, fnV_e, kCV_e, kFld1_e, kFld2_e, kMk_e, kMk2_e, kMt_e, kMt2_e, kMt3_e, gFldE, setFE, metE, insAt_zero, insAt_succ, ob_s, ob_n, then_nx, then_rt, then_bk, then_ct, par2_e, turn_nx, turn_ct, turn_bk, turn_rt, runT_nil, runT_cons, mapT_nil, mapT_cons, finP_nx, finM_rt, finM_nx, addE, subE, negE, cmpE, ixT, truI, truB, at0, at1, at2, at3, List.getElem?_cons_zero, List.getElem?_cons_succ, List.set_cons_zero, List.set_cons_succ, List.length_cons, List.length_nil, Nat.reduceAdd, Nat.reduceLeDiff, if_true, if_false, reduceIte, reduceCtorEq, id_eq, Bool.not_true, Bool.not_false, Bool.false_eq_true, and_self, Int.reduceLE, Int.reduceLT, Int.reduceNeg, decide_true, decide_false, Option.toList_some, Option.toList_none, List.cons_append, List.nil_append, ixRf, tupRf, lenRf, listRf, isLstRf, appRf, revRf, setRf, itemsRf, itemsT, itemsL, zipT, zipRf, allRf, anyRf, sumRf, tupT, slRf, isiE, t2E, lenT, lstAt_zero, lstAt_succ, Option.isSome_some, Nat.reduceLT, Bool.or_true, Bool.or_false, Bool.true_or, Bool.false_or, gIsN, gNotN, D.isNon, wipeD, d1, d2, m1, m2, sg_e, eqIb, sgn_eq, sgn_gt, sgn_lt, decide_eq_true hs, decide_eq_false h1]
      exact finP_rt _ _ rfl
  · rw [if_neg hs]
    have f1 := flat_moment_e b3 b2 (by omega) hs
    have f2 := flat_moment_e b4 b2 (by omega) hs
    by_cases h1 : 0 < s
    · rw [if_pos h1]
      have dr : m_directed [.int (sgn s), mom ((lo - u) / s), mom ((hi - u) / s), .tup [eP f, eF lo, eF hi, .int i, .int j]] = some (.tup [mom ((lo - u) / s), mom ((hi - u) / s), .int i, .int j]) := by
        rw [e_directed _ _ _ _ rfl]
        unfold b_directed
        simp only [↓ev_V, ↓ev_C, ↓ev_O, ↓ev_U, ↓ev_Nil, ↓ev_Cons, ↓ev_L, ↓ev_If, ↓ev_tV, ↓ev_tTr, ↓ev_tAn, ↓ev_tOr, ↓ev_tNo, ↓ev_NotB, ↓ev_AnB, ↓ev_OrB, ↓ev_Tup, ↓ev_Lst, ↓ev_CP, ↓ev_ML, ↓ev_Sli, ↓ev_oN, ↓ev_oS, ↓ev_Ch, ↓ev_gN, ↓ev_gsNil, ↓ev_gsCons, ↓ev_gT, ↓ev_Seq, ↓ev_Asg, ↓ev_Par, ↓ev_Ret, ↓ev_Drop, ↓ev_sIf, ↓ev_Next, ↓ev_Brk, ↓ev_Cont, ↓ev_RetN, ↓ev_Sub, ↓ev_For, ↓ev_body, ↓ev_iE, ↓ev_iR1, ↓ev_iR2, ↓ev_iZ, ↓ev_iEn, ↓ev_item, ↓ev_Lc, ↓ev_Yes, ↓ev_Par3, ↓ev_As2, ↓ev_As4, ↓ev_CV, ↓ev_Fld, ↓ev_Mk, ↓ev_Mk0, ↓ev_Mt, ↓ev_ForM, ↓ev_bodyM, ↓ev_gTmT, ↓ev_gTmR, ↓ev_AsgM, ↓ev_Star, ↓ev_Dc, ↓ev_iRv, kForM_e, kAsgM_e, kSt1_e, kSt2_e, kSt3_e, seqT, seqRf, popRf, insRf, inE, notInE, kDc_e, kRv_e, revT, revL, vOf_e, kO_e, kO2_e, kU_e, kCons_e, kCons2_e, kL_e, kIf_t, kIf_f, kB_e, kTr_e, kTr2_e, kAn_t, kAn_f, kOr_t, kOr_f, kNo_e, kNotB_e, kAnB_t, kAnB_f, kOrB_t, kOrB_f, kTup_e, kLst_e, kCP_e, kD_e, kML_e, kML2_e, kS1_e, kS2_e, kS3_e, kI_e, kCh1_e, kCh2_e, kCh3_t, kCh3_f, kAsg_e, kNx_e, kRet_e, kDrop_e, kSif_t, kSif_f, kSub1_e, kSub2_e, kSub3_e, kNxM_e, kFor_e, kBody_e, kIE_e, kSrc_e, kR1_e, kR2_e, kR2b_e, kZ1_e, kZ2_e, kEn_e, kMap_e, kMap2_e, kIt1_e, kIt2_t, kIt2_f, kSome_e, kLc_e, kLc2_e, kGc_e, par3_e, kAs2_e, kAs3_e, kAs4_e, kAs5_e, kAs6_e, fnOf2_e, fnV_e, kCV_e, kFld1_e, kFld2_e, kMk_e, kMk2_e, kMt_e, kMt2_e, kMt3_e, gFldE, setFE, metE, insAt_zero, insAt_succ, ob_s, ob_n, then_nx, then_rt, then_bk, then_ct, par2_e, turn_nx, turn_ct, turn_bk, turn_rt, runT_nil, runT_cons, mapT_nil, mapT_cons, finP_nx, finM_rt, finM_nx, addE, subE, negE, cmpE, ixT, truI, truB, at0, at1, at2, at3, List.getElem?_cons_zero, List.getElem?_cons_succ, List.set_cons_zero, List.set_cons_succ, List.length_cons, List.length_nil, Nat.reduceAdd, Nat.reduceLeDiff, if_true, if_false, reduceIte, reduceCtorEq, id_eq, Bool.not_true, Bool.not_false, Bool.false_eq_true, and_self, Int.reduceLE, Int.reduceLT, Int.reduceNeg, decide_true, decide_false, Option.toList_some, Option.toList_none, List.cons_append, List.nil_append, ixRf, tupRf, lenRf, listRf, isLstRf, appRf, revRf, setRf, itemsRf, itemsT, itemsL, zipT, zipRf, allRf, anyRf, sumRf, tupT, slRf, isiE, t2E, lenT, lstAt_zero, lstAt_succ, Option.isSome_some, Nat.reduceLT, Bool.or_true, Bool.or_false, Bool.true_or, Bool.false_or, gIsN, gNotN, D.isNon, wipeD, sgn_gt, decide_eq_true h1, at4]
        exact finP_rt _ _ rfl
      simp only [↓nn, ↓ev_V, ↓ev_C, ↓ev_O, ↓ev_U, ↓ev_Nil, ↓ev_Cons, ↓ev_L, ↓ev_If, ↓ev_tV, ↓ev_tTr, ↓ev_tAn, ↓ev_tOr, ↓ev_tNo, ↓ev_NotB, ↓ev_AnB, ↓ev_OrB, ↓ev_Tup, ↓ev_Lst, ↓ev_CP, ↓ev_ML, ↓ev_Sli, ↓ev_oN, ↓ev_oS, ↓ev_Ch, ↓ev_gN, ↓ev_gsNil, ↓ev_gsCons, ↓ev_gT, ↓ev_Seq, ↓ev_Asg, ↓ev_Par, ↓ev_Ret, ↓ev_Drop, ↓ev_sIf, ↓ev_Next, ↓ev_Brk, ↓ev_Cont, ↓ev_RetN, ↓ev_Sub, ↓ev_For, ↓ev_body, ↓ev_iE, ↓ev_iR1, ↓ev_iR2, ↓ev_iZ, ↓ev_iEn, ↓ev_item, ↓ev_Lc, ↓ev_Yes, ↓ev_Par3, ↓ev_As2, ↓ev_As4, ↓ev_CV, ↓ev_Fld, ↓ev_Mk, ↓ev_Mk0, ↓ev_Mt, ↓ev_ForM, ↓ev_bodyM, ↓ev_gTmT, ↓ev_gTmR, ↓ev_AsgM, ↓ev_Star, ↓ev_Dc, ↓ev_iRv, kForM_e, kAsgM_e, kSt1_e, kSt2_e, kSt3_e, seqT, seqRf, popRf, insRf, inE, notInE, kDc_e, kRv_e, revT, revL, vOf_e, kO_e, kO2_e, kU_e, kCons_e, kCons2_e, kL_e, kIf_t, kIf_f, kB_e, kTr_e, kTr2_e, kAn_t, kAn_f, kOr_t, kOr_f, kNo_e, kNotB_e, kAnB_t, kAnB_f, kOrB_t, kOrB_f, kTup_e, kLst_e, kCP_e, kD_e, kML_e, kML2_e, kS1_e, kS2_e, kS3_e, kI_e, kCh1_e, kCh2_e, kCh3_t, kCh3_f, kAsg_e, kNx_e, kRet_e, kDrop_e, kSif_t, kSif_f, kSub1_e, kSub2_e, kSub3_e, kNxM_e, kFor_e, kBody_e, kIE_e, kSrc_e, kR1_e, kR2_e, kR2b_e, kZ1_e, kZ2_e, kEn_e, kMap_e, kMap2_e, kIt1_e, kIt2_t, kIt2_f, kSome_e, kLc_e, kLc2_e, kGc_e, par3_e, kAs2_e, kAs3_e, kAs4_e, kAs5_e, kAs6_e, fnOf2_e, fnV_e, kCV_e, kFld1_e, kFld2_e, kMk_e, kMk2_e, kMt_e, kMt2_e, kMt3_e, gFldE, setFE, metE, insAt_zero, insAt_succ, ob_s, ob_n, then_nx, then_rt, then_bk, then_ct, par2_e, turn_nx, turn_ct, turn_bk, turn_rt, runT_nil, runT_cons, mapT_nil, mapT_cons, finP_nx, finM_rt, finM_nx, addE, subE, negE, cmpE, ixT, truI, truB, at0, at1, at2, at3, List.getElem?_cons_zero, List.getElem?_cons_succ, List.set_cons_zero, List.set_cons_succ, List.length_cons, List.length_nil, Nat.reduceAdd, Nat.reduceLeDiff, if_true, if_false, reduceIte, reduceCtorEq, id_eq, Bool.not_true, Bool.not_false, Bool.false_eq_true, and_self, Int.reduceLE, Int.reduceLT, Int.reduceNeg, decide_true, decide_false, Option.toList_some, Option.toList_none, List.cons_append, List.nil_append, ixRf, tupRf, lenRf, listRf, isLstRf, appRf, revRf, setRf, itemsRf, itemsT, itemsL, zipT, zipRf, allRf, anyRf, sumRf, tupT, slRf, isiE, t2E, lenT, lstAt_zero, lstAt_succ, Option.isSome_some, Nat.reduceLT, Bool.or_true, Bool.or_false, Bool.true_or, Bool.false_or, gIsN, gNotN, D.isNon, wipeD, d1, d2, m1, m2, sg_e, eqIb, sgn_eq, decide_eq_false hs, f1, f2, dr]
      exact finP_rt _ _ rfl
    · rw [if_neg h1]
      have dr : m_directed [.int (sgn s), mom ((lo - u) / s), mom ((hi - u) / s), .tup [eP f, eF lo, eF hi, .int i, .int j]] = some (.tup [mom ((hi - u) / s), mom ((lo - u) / s), .int j, .int i]) := by
        rw [e_directed _ _ _ _ rfl]
        unfold b_directed
        simp only [↓ev_V, ↓ev_C, ↓ev_O, ↓ev_U, ↓ev_Nil, ↓ev_Cons, ↓ev_L, ↓ev_If, ↓ev_tV, ↓ev_tTr, ↓ev_tAn, ↓ev_tOr, ↓ev_tNo, ↓ev_NotB, ↓ev_AnB, ↓ev_OrB, ↓ev_Tup, ↓ev_Lst, ↓ev_CP, ↓ev_ML, ↓ev_Sli, ↓ev_oN, ↓ev_oS, ↓ev_Ch, ↓ev_gN, ↓ev_gsNil, ↓ev_gsCons, ↓ev_gT, ↓ev_Seq, ↓ev_Asg, ↓ev_Par, ↓ev_Ret, ↓ev_Drop, ↓ev_sIf, ↓ev_Next, ↓ev_Brk, ↓ev_Cont, ↓ev_RetN, ↓ev_Sub, ↓ev_For, ↓ev_body, ↓ev_iE, ↓ev_iR1, ↓ev_iR2, ↓ev_iZ, ↓ev_iEn, ↓ev_item, ↓ev_Lc, ↓ev_Yes, ↓ev_Par3, ↓ev_As2, ↓ev_As4, ↓ev_CV, ↓ev_Fld, ↓ev_Mk, ↓ev_Mk0, ↓ev_Mt, ↓ev_ForM, ↓ev_bodyM, ↓ev_gTmT, ↓ev_gTmR, ↓ev_AsgM, ↓ev_Star, ↓ev_Dc, ↓ev_iRv, kForM_e, kAsgM_e, kSt1_e, kSt2_e, kSt3_e, seqT, seqRf, popRf, insRf, inE, notInE, kDc_e, kRv_e, revT, revL, vOf_e, kO_e, kO2_e, kU_e, kCons_e, kCons2_e, kL_e, kIf_t, kIf_f, kB_e, kTr_e, kTr2_e, kAn_t, kAn_f, kOr_t, kOr_f, kNo_e, kNotB_e, kAnB_t, kAnB_f, kOrB_t, kOrB_f, kTup_e, kLst_e, kCP_e, kD_e, kML_e, kML2_e, kS1_e, kS2_e, kS3_e, kI_e, kCh1_e, kCh2_e, kCh3_t, kCh3_f, kAsg_e, kNx_e, kRet_e, kDrop_e, kSif_t, kSif_f, kSub1_e, kSub2_e, kSub3_e, kNxM_e, kFor_e, kBody_e, kIE_e, kSrc_e, kR1_e, kR2_e, kR2b_e, kZ1_e, kZ2_e, kEn_e, kMap_e, kMap2_e, kIt1_e, kIt2_t, kIt2_f, kSome_e, kLc_e, kLc2_e, kGc_e, par3_e, kAs2_e, kAs3_e, kAs4_e, kAs5_e, kAs6_e, fnOf2_e, fnV_e, kCV_e, kFld1_e, kFld2_e, kMk_e, kMk2_e, kMt_e, kMt2_e, kMt3_e, gFldE, setFE, metE, insAt_zero, insAt_succ, ob_s, ob_n, then_nx, then_rt, then_bk, then_ct, par2_e, turn_nx, turn_ct, turn_bk, turn_rt, runT_nil, runT_cons, mapT_nil, mapT_cons, finP_nx, finM_rt, finM_nx, addE, subE, negE, cmpE, ixT, truI, truB, at0, at1, at2, at3, List.getElem?_cons_zero, List.getElem?_cons_succ, List.set_cons_zero, List.set_cons_succ, List.length_cons, List.length_nil, Nat.reduceAdd, Nat.reduceLeDiff, if_true, if_false, reduceIte, reduceCtorEq, id_eq, Bool.not_true, Bool.not_false, Bool.false_eq_true, and_self, Int.reduceLE, Int.reduceLT, Int.reduceNeg, decide_true, decide_false, Option.toList_some, Option.toList_none, List.cons_append, List.nil_append, ixRf, tupRf, lenRf, listRf, isLstRf, appRf, revRf, setRf, itemsRf, itemsT, itemsL, zipT, zipRf, allRf, anyRf, sumRf, tupT, slRf, isiE, t2E, lenT, lstAt_zero, lstAt_succ, Option.isSome_some, Nat.reduceLT, Bool.or_true, Bool.or_false, Bool.true_or, Bool.false_or, gIsN, gNotN, D.isNon, wipeD, sgn_gt, decide_eq_false h1, at4]
        exact finP_rt _ _ rfl
      simp only [↓nn, ↓ev_V, ↓ev_C, ↓ev_O, ↓ev_U, ↓ev_Nil, ↓ev_Cons, ↓ev_L, ↓ev_If, ↓ev_tV, ↓ev_tTr, ↓ev_tAn, ↓ev_tOr, ↓ev_tNo, ↓ev_NotB, ↓ev_AnB, ↓ev_OrB, ↓ev_Tup, ↓ev_Lst, ↓ev_CP, ↓ev_ML, ↓ev_Sli, ↓ev_oN, ↓ev_oS, ↓ev_Ch, ↓ev_gN, ↓ev_gsNil, ↓ev_gsCons, ↓ev_gT, ↓ev_Seq, ↓ev_Asg, ↓ev_Par, ↓ev_Ret, ↓ev_Drop, ↓ev_sIf, ↓ev_Next, ↓ev_Brk, ↓ev_Cont, ↓ev_RetN, ↓ev_Sub, ↓ev_For, ↓ev_body, ↓ev_iE, ↓ev_iR1, ↓ev_iR2, ↓ev_iZ, ↓ev_iEn, ↓ev_item, ↓ev_Lc, ↓ev_Yes, ↓ev_Par3, ↓ev_As2, ↓ev_As4, ↓ev_CV, ↓ev_Fld, ↓ev_Mk, ↓ev_Mk0, ↓ev_Mt, ↓ev_ForM, ↓ev_bodyM, ↓ev_gTmT, ↓ev_gTmR, ↓ev_AsgM, ↓ev_Star, ↓ev_Dc, ↓ev_iRv, kForM_e, kAsgM_e, kSt1_e, kSt2_e, kSt3_e, seqT, seqRf, popRf, insRf, inE, notInE, kDc_e, kRv_e, revT, revL, vOf_e, kO_e, kO2_e, kU_e, kCons_e, kCons2_e, kL_e, kIf_t, kIf_f, kB_e, kTr_e, kTr2_e, kAn_t, kAn_f, kOr_t, kOr_f, kNo_e, kNotB_e, kAnB_t, kAnB_f, kOrB_t, kOrB_f, kTup_e, kLst_e, kCP_e, kD_e, kML_e, kML2_e, kS1_e, kS2_e, kS3_e, kI_e, kCh1_e, kCh2_e, kCh3_t, kCh3_f, kAsg_e, kNx_e, kRet_e, kDrop_e, kSif_t, kSif_f, kSub1_e, kSub2_e, kSub3_e, kNxM_e, kFor_e, kBody_e, kIE_e, kSrc_e, kR1_e, kR2_e, kR2b_e, kZ1_e, kZ2_e, kEn_e, kMap_e, kMap2_e, kIt1_e, kIt2_t, kIt2_f, kSome_e, kLc_e, kLc2_e, kGc_e, par3_e, kAs2_e, kAs3_e, kAs4_e, kAs5_e, kAs6_e, fnOf2_e, fnV_e, kCV_e, kFld1_e, kFld2_e, kMk_e, kMk2_e, kMt_e, kMt2_e, kMt3_e, gFldE, setFE, metE, insAt_zero, insAt_succ, ob_s, ob_n, then_nx, then_rt, then_bk, then_ct, par2_e, turn_nx, turn_ct, turn_bk, turn_rt, runT_nil, runT_cons, mapT_nil, mapT_cons, finP_nx, finM_rt, finM_nx, addE, subE, negE, cmpE, ixT, truI, truB, at0, at1, at2, at3, List.getElem?_cons_zero, List.getElem?_cons_succ, List.set_cons_zero, List.set_cons_succ, List.length_cons, List.length_nil, Nat.reduceAdd, Nat.reduceLeDiff, if_true, if_false, reduceIte, reduceCtorEq, id_eq, Bool.not_true, Bool.not_false, Bool.false_eq_true, and_self, Int.reduceLE, Int.reduceLT, Int.reduceNeg, decide_true, decide_false, Option.toList_some, Option.toList_none, List.cons_append, List.nil_append, ixRf, tupRf, lenRf, listRf, isLstRf, appRf, revRf, setRf, itemsRf, itemsT, itemsL, zipT, zipRf, allRf, anyRf, sumRf, tupT, slRf, isiE, t2E, lenT, lstAt_zero, lstAt_succ, Option.isSome_some, Nat.reduceLT, Bool.or_true, Bool.or_false, Bool.true_or, Bool.false_or, gIsN, gNotN, D.isNon, wipeD, d1, d2, m1, m2, sg_e, eqIb, sgn_eq, decide_eq_false hs, f1, f2, dr]
      exact finP_rt _ _ rfl

/-! ### what is left of a ray by many slabs -/
abbrev Mk1 := Option (Rat × Int)
def eT1 : Mk1 → D
  | none => .non
  | some p => mom p.1
def eI1 : Mk1 → D
  | none => .non
  | some p => .int p.2
def Mk1.B (n : Nat) : Mk1 → Prop
  | none => True
  | some p => Rb n p.1
def Spn.B (n : Nat) : Spn → Prop
  | .bnd t u _ _ => Rb n t ∧ Rb n u
  | _ => True
def later (b : Mk1) (t : Rat) (i : Int) : Mk1 := match b with
  | none => some (t, i)
  | some p => if 0 < t - p.1 then some (t, i) else some p
def sooner (e : Mk1) (u : Rat) (j : Int) : Mk1 := match e with
  | none => some (u, j)
  | some p => if u - p.1 < 0 then some (u, j) else some p
def metL : List Spn → Mk1 → Mk1 → Option (Mk1 × Mk1)
  | [], b, e => some (b, e)
  | .mis :: _, _, _ => none
  | .alw :: l, b, e => metL l b e
  | .bnd t u i j :: l, b, e => metL l (later b t i) (sooner e u j)
def metD (l : List Spn) : D := match metL l none none with
  | none => .non
  | some (some p, some q) => if p.1 - q.1 < 0 then .tup [mom p.1, mom q.1, .int p.2, .int q.2] else .non
  | some (b, e) => .tup [eT1 b, eT1 e, eI1 b, eI1 e]
theorem later_B {n : Nat} {b : Mk1} {t : Rat} {i : Int} (hb : b.B n) (ht : Rb n t) : (later b t i).B n := by
  cases b with
  | none => exact ht
  | some p =>
    unfold later
    dsimp only
    split
    · exact ht
    · exact hb
theorem sooner_B {n : Nat} {b : Mk1} {t : Rat} {i : Int} (hb : b.B n) (ht : Rb n t) : (sooner b t i).B n := by
  cases b with
  | none => exact ht
  | some p =>
    unfold sooner
    dsimp only
    split
    · exact ht
    · exact hb
theorem metL_B {n : Nat} : ∀ (l : List Spn) (b e b' e' : Mk1), (∀ s ∈ l, s.B n) → b.B n → e.B n → metL l b e = some (b', e') → b'.B n ∧ e'.B n
  | [], b, e, b', e', _, hb, he, h => by cases h; exact ⟨hb, he⟩
  | .mis :: l, b, e, b', e', _, _, _, h => by cases h
  | .alw :: l, b, e, b', e', hl, hb, he, h => metL_B l b e b' e' (fun s hs => hl s (List.mem_cons_of_mem _ hs)) hb he h
  | .bnd t u i j :: l, b, e, b', e', hl, hb, he, h => by
    have := hl _ List.mem_cons_self
    exact metL_B l _ _ b' e' (fun s hs => hl s (List.mem_cons_of_mem _ hs)) (later_B hb this.1) (sooner_B he this.2) h
noncomputable def metA : FS := (sIf (tV (fO gIsN (fV 6) (fC .non))) (sRet (fC .non)) sNext)
noncomputable def metB : FS := (sIf (tAn (tV (fO gNotN (fO gIx (fV 6) (fC (.int 0))) (fC .non))) (tOr2 (tV (fO gIsN (fV 2) (fC .non))) (tV (fO gGt (fCV fv 1 (fCons (fO gIx (fV 6) (fC (.int 0))) (fCons (fV 2) fNil))) (fC (.int 0)))))) (sPar 2 4 (fCons (fO gIx (fV 6) (fC (.int 0))) (fCons (fO gIx (fV 6) (fC (.int 2))) fNil))) sNext)
noncomputable def metC : FS := (sIf (tAn (tV (fO gNotN (fO gIx (fV 6) (fC (.int 1))) (fC .non))) (tOr2 (tV (fO gIsN (fV 3) (fC .non))) (tV (fO gLt (fCV fv 1 (fCons (fO gIx (fV 6) (fC (.int 1))) (fCons (fV 3) fNil))) (fC (.int 0)))))) (sPar 3 5 (fCons (fO gIx (fV 6) (fC (.int 1))) (fCons (fO gIx (fV 6) (fC (.int 3))) fNil))) sNext)
theorem momN (t : Rat) (M : Mem) : gIsN (mom t) .non M = some (.bl false, M) := rfl
theorem momY (t : Rat) (M : Mem) : gNotN (mom t) .non M = some (.bl true, M) := rfl
section
variable {n : Nat} {x0 x2 x3 x4 x5 x6 : Option D} {M : Mem}
theorem metB_e (hn : 2 * n ≤ 9000) {b : Mk1} (hb : b.B n) {t u : Rat} (ht : Rb n t) (i j : Int) (K : FS) :
    sSeq metB K [x0, some (.fn 2), some (eT1 b), x3, some (eI1 b), x5, some (.tup [mom t, mom u, .int i, .int j])] M = K [x0, some (.fn 2), some (eT1 (later b t i)), x3, some (eI1 (later b t i)), x5, some (.tup [mom t, mom u, .int i, .int j])] M := by
  have fv2 : fv 2 = some m_compare := rfl
  unfold metB
  cases b with
  | none => simp only [↓momN, ↓momY, ↓ev_V, ↓ev_C, ↓ev_O, ↓ev_U, ↓ev_Nil, ↓ev_Cons, ↓ev_L, ↓ev_If, ↓ev_tV, ↓ev_tTr, ↓ev_tAn, ↓ev_tOr, ↓ev_tNo, ↓ev_NotB, ↓ev_AnB, ↓ev_OrB, ↓ev_Tup, ↓ev_Lst, ↓ev_CP, ↓ev_ML, ↓ev_Sli, ↓ev_oN, ↓ev_oS, ↓ev_Ch, ↓ev_gN, ↓ev_gsNil, ↓ev_gsCons, ↓ev_gT, ↓ev_Seq, ↓ev_Asg, ↓ev_Par, ↓ev_Ret, ↓ev_Drop, ↓ev_sIf, ↓ev_Next, ↓ev_Brk, ↓ev_Cont, ↓ev_RetN, ↓ev_Sub, ↓ev_For, ↓ev_body, ↓ev_iE, ↓ev_iR1, ↓ev_iR2, ↓ev_iZ, ↓ev_iEn, ↓ev_item, ↓ev_Lc, ↓ev_Yes, ↓ev_Par3, ↓ev_As2, ↓ev_As4, ↓ev_CV, ↓ev_Fld, ↓ev_Mk, ↓ev_Mk0, ↓ev_Mt, ↓ev_ForM, ↓ev_bodyM, ↓ev_gTmT, ↓ev_gTmR, ↓ev_AsgM, ↓ev_Star, ↓ev_Dc, ↓ev_iRv, kForM_e, kAsgM_e, kSt1_e, kSt2_e, kSt3_e, seqT, seqRf, popRf, insRf, inE, notInE, kDc_e, kRv_e, revT, revL, vOf_e, kO_e, kO2_e, kU_e, kCons_e, kCons2_e, kL_e, kIf_t, kIf_f, kB_e, kTr_e, kTr2_e, kAn_t, kAn_f, kOr_t, kOr_f, kNo_e, kNotB_e, kAnB_t, kAnB_f, kOrB_t, kOrB_f, kTup_e, kLst_e, kCP_e, kD_e, kML_e, kML2_e, kS1_e, kS2_e, kS3_e, kI_e, kCh1_e, kCh2_e, kCh3_t, kCh3_f, kAsg_e, kNx_e, kRet_e, kDrop_e, kSif_t, kSif_f, kSub1_e, kSub2_e, kSub3_e, kNxM_e, kFor_e, kBody_e, kIE_e, kSrc_e, kR1_e, kR2_e, kR2b_e, kZ1_e, kZ2_e, kEn_e, kMap_e, kMap2_e, kIt1_e, kIt2_t, kIt2_f, kSome_e, kLc_e, kLc2_e, kGc_e, par3_e, kAs2_e, kAs3_e, kAs4_e, kAs5_e, kAs6_e, fnOf2_e, fnV_e, kCV_e, kFld1_e, kFld2_e, kMk_e, kMk2_e, kMt_e, kMt2_e, kMt3_e, gFldE, setFE, metE, insAt_zero, insAt_succ, ob_s, ob_n, then_nx, then_rt, then_bk, then_ct, par2_e, turn_nx, turn_ct, turn_bk, turn_rt, runT_nil, runT_cons, mapT_nil, mapT_cons, finP_nx, finM_rt, finM_nx, addE, subE, negE, cmpE, ixT, truI, truB, at0, at1, at2, at3, List.getElem?_cons_zero, List.getElem?_cons_succ, List.set_cons_zero, List.set_cons_succ, List.length_cons, List.length_nil, Nat.reduceAdd, Nat.reduceLeDiff, if_true, if_false, reduceIte, reduceCtorEq, id_eq, Bool.not_true, Bool.not_false, Bool.false_eq_true, and_self, Int.reduceLE, Int.reduceLT, Int.reduceNeg, decide_true, decide_false, Option.toList_some, Option.toList_none, List.cons_append, List.nil_append, ixRf, tupRf, lenRf, listRf, isLstRf, appRf, revRf, setRf, itemsRf, itemsT, itemsL, zipT, zipRf, allRf, anyRf, sumRf, tupT, slRf, isiE, t2E, lenT, lstAt_zero, lstAt_succ, Option.isSome_some, Nat.reduceLT, Bool.or_true, Bool.or_false, Bool.true_or, Bool.false_or, gIsN, gNotN, D.isNon, wipeD, eT1, eI1, later]
  | some p =>
    have c := compare_flat ht hb (by omega)
    by_cases h : 0 < t - p.1
    · simp only [↓momN, ↓momY, ↓ev_V, ↓ev_C, ↓ev_O, ↓ev_U, ↓ev_Nil, ↓ev_Cons, ↓ev_L, ↓ev_If, ↓ev_tV, ↓ev_tTr, ↓ev_tAn, ↓ev_tOr, ↓ev_tNo, ↓ev_NotB, ↓ev_AnB, ↓ev_OrB, ↓ev_Tup, ↓ev_Lst, ↓ev_CP, ↓ev_ML, ↓ev_Sli, ↓ev_oN, ↓ev_oS, ↓ev_Ch, ↓ev_gN, ↓ev_gsNil, ↓ev_gsCons, ↓ev_gT, ↓ev_Seq, ↓ev_Asg, ↓ev_Par, ↓ev_Ret, ↓ev_Drop, ↓ev_sIf, ↓ev_Next, ↓ev_Brk, ↓ev_Cont, ↓ev_RetN, ↓ev_Sub, ↓ev_For, ↓ev_body, ↓ev_iE, ↓ev_iR1, ↓ev_iR2, ↓ev_iZ, ↓ev_iEn, ↓ev_item, ↓ev_Lc, ↓ev_Yes, ↓ev_Par3, ↓ev_As2, ↓ev_As4, ↓ev_CV, ↓ev_Fld, ↓ev_Mk, ↓ev_Mk0, ↓ev_Mt, ↓ev_ForM, ↓ev_bodyM, ↓ev_gTmT, ↓ev_gTmR, ↓ev_AsgM, ↓ev_Star, ↓ev_Dc, ↓ev_iRv, kForM_e, kAsgM_e, kSt1_e, kSt2_e, kSt3_e, seqT, seqRf, popRf, insRf, inE, notInE, kDc_e, kRv_e, revT, revL, vOf_e, kO_e, kO2_e, kU_e, kCons_e, kCons2_e, kL_e, kIf_t, kIf_f, kB_e, kTr_e, kTr2_e, kAn_t, kAn_f, kOr_t, kOr_f, kNo_e, kNotB_e, kAnB_t, kAnB_f, kOrB_t, kOrB_f, kTup_e, kLst_e, kCP_e, kD_e, kML_e, kML2_e, kS1_e, kS2_e, kS3_e, kI_e, kCh1_e, kCh2_e, kCh3_t, kCh3_f, kAsg_e, kNx_e, kRet_e, kDrop_e, kSif_t, kSif_f, kSub1_e, kSub2_e, kSub3_e, kNxM_e, kFor_e, kBody_e, kIE_e, kSrc_e, kR1_e, kR2_e, kR2b_e, kZ1_e, kZ2_e, kEn_e, kMap_e, kMap2_e, kIt1_e, kIt2_t, kIt2_f, kSome_e, kLc_e, kLc2_e, kGc_e, par3_e, kAs2_e, kAs3_e, kAs4_e, kAs5_e, kAs6_e, fnOf2_e, fnV_e, kCV_e, kFld1_e, kFld2_e, kMk_e, kMk2_e, kMt_e, kMt2_e, kMt3_e, gFldE, setFE, metE, insAt_zero, insAt_succ, ob_s, ob_n, then_nx, then_rt, then_bk, then_ct, par2_e, turn_nx, turn_ct, turn_bk, turn_rt, runT_nil, runT_cons, mapT_nil, mapT_cons, finP_nx, finM_rt, finM_nx, addE, subE, negE, cmpE, ixT, truI, truB, at0, at1, at2, at3, List.getElem?_cons_zero, List.getElem?_cons_succ, List.set_cons_zero, List.set_cons_succ, List.length_cons, List.length_nil, Nat.reduceAdd, Nat.reduceLeDiff, if_true, if_false, reduceIte, reduceCtorEq, id_eq, Bool.not_true, Bool.not_false, Bool.false_eq_true, and_self, Int.reduceLE, Int.reduceLT, Int.reduceNeg, decide_true, decide_false, Option.toList_some, Option.toList_none, List.cons_append, List.nil_append, ixRf, tupRf, lenRf, listRf, isLstRf, appRf, revRf, setRf, itemsRf, itemsT, itemsL, zipT, zipRf, allRf, anyRf, sumRf, tupT, slRf, isiE, t2E, lenT, lstAt_zero, lstAt_succ, Option.isSome_some, Nat.reduceLT, Bool.or_true, Bool.or_false, Bool.true_or, Bool.false_or, gIsN, gNotN, D.isNon, wipeD, eT1, eI1, later, fv2, c, sgn_gt, decide_eq_true h, if_pos h]
    · simp only [↓momN, ↓momY, ↓ev_V, ↓ev_C, ↓ev_O, ↓ev_U, ↓ev_Nil, ↓ev_Cons, ↓ev_L, ↓ev_If, ↓ev_tV, ↓ev_tTr, ↓ev_tAn, ↓ev_tOr, ↓ev_tNo, ↓ev_NotB, ↓ev_AnB, ↓ev_OrB, ↓ev_Tup, ↓ev_Lst, ↓ev_CP, ↓ev_ML, ↓ev_Sli, ↓ev_oN, ↓ev_oS, ↓ev_Ch, ↓ev_gN, ↓ev_gsNil, ↓ev_gsCons, ↓ev_gT, ↓ev_Seq, ↓ev_Asg, ↓ev_Par, ↓ev_Ret, ↓ev_Drop, ↓ev_sIf, ↓ev_Next, ↓ev_Brk, ↓ev_Cont, ↓ev_RetN, ↓ev_Sub, ↓ev_For, ↓ev_body, ↓ev_iE, ↓ev_iR1, ↓ev_iR2, ↓ev_iZ, ↓ev_iEn, ↓ev_item, ↓ev_Lc, ↓ev_Yes, ↓ev_Par3, ↓ev_As2, ↓ev_As4, ↓ev_CV, ↓ev_Fld, ↓ev_Mk, ↓ev_Mk0, ↓ev_Mt, ↓ev_ForM, ↓ev_bodyM, ↓ev_gTmT, ↓ev_gTmR, ↓ev_AsgM, ↓ev_Star, ↓ev_Dc, ↓ev_iRv, kForM_e, kAsgM_e, kSt1_e, kSt2_e, kSt3_e, seqT, seqRf, popRf, insRf, inE, notInE, kDc_e, kRv_e, revT, revL, vOf_e, kO_e, kO2_e, kU_e, kCons_e, kCons2_e, kL_e, kIf_t, kIf_f, kB_e, kTr_e, kTr2_e, kAn_t, kAn_f, kOr_t, kOr_f, kNo_e, kNotB_e, kAnB_t, kAnB_f, kOrB_t, kOrB_f, kTup_e, kLst_e, kCP_e, kD_e, kML_e, kML2_e, kS1_e, kS2_e, kS3_e, kI_e, kCh1_e, kCh2_e, kCh3_t, kCh3_f, kAsg_e, kNx_e, kRet_e, kDrop_e, kSif_t, kSif_f, kSub1_e, kSub2_e, kSub3_e, kNxM_e, kFor_e, kBody_e, kIE_e, kSrc_e, kR1_e, kR2_e, kR2b_e, kZ1_e, kZ2_e, kEn_e, kMap_e, kMap2_e, kIt1_e, kIt2_t, kIt2_f, kSome_e, kLc_e, kLc2_e, kGc_e, par3_e, kAs2_e, kAs3_e, kAs4_e, kAs5_e, kAs6_e, fnOf2_e, fnV_e, kCV_e, kFld1_e, kFld2_e, kMk_e, kMk2_e, kMt_e, kMt2_e, kMt3_e, gFldE, setFE, metE, insAt_zero, insAt_succ, ob_s, ob_n, then_nx, then_rt, then_bk, then_ct, par2_e, turn_nx, turn_ct, turn_bk, turn_rt, runT_nil, runT_cons, mapT_nil, mapT_cons, finP_nx, finM_rt, finM_nx, addE, subE, negE, cmpE, ixT, truI, truB, at0, at1, at2, at3, List.getElem?_cons_zero, List.getElem?_cons_succ, List.set_cons_zero, List.set_cons_succ, List.length_cons, List.length_nil, Nat.reduceAdd, Nat.reduceLeDiff, if_true, if_false, reduceIte, reduceCtorEq, id_eq, Bool.not_true, Bool.not_false, Bool.false_eq_true, and_self, Int.reduceLE, Int.reduceLT, Int.reduceNeg, decide_true, decide_false, Option.toList_some, Option.toList_none, List.cons_append, List.nil_append, ixRf, tupRf, lenRf, listRf, isLstRf, appRf, revRf, setRf, itemsRf, itemsT, itemsL, zipT, zipRf, allRf, anyRf, sumRf, tupT, slRf, isiE, t2E, lenT, lstAt_zero, lstAt_succ, Option.isSome_some, Nat.reduceLT, Bool.or_true, Bool.or_false, Bool.true_or, Bool.false_or, gIsN, gNotN, D.isNon, wipeD, eT1, eI1, later, fv2, c, sgn_gt, decide_eq_false h, if_neg h]
theorem metC_e (hn : 2 * n ≤ 9000) {e : Mk1} (he : e.B n) {t u : Rat} (hu : Rb n u) (i j : Int) :
    metC [x0, some (.fn 2), x2, some (eT1 e), x4, some (eI1 e), some (.tup [mom t, mom u, .int i, .int j])] M = some (.nx [x0, some (.fn 2), x2, some (eT1 (sooner e u j)), x4, some (eI1 (sooner e u j)), some (.tup [mom t, mom u, .int i, .int j])], M) := by
  have fv2 : fv 2 = some m_compare := rfl
  unfold metC
  cases e with
  | none => simp only [↓momN, ↓momY, ↓ev_V, ↓ev_C, ↓ev_O, ↓ev_U, ↓ev_Nil, ↓ev_Cons, ↓ev_L, ↓ev_If, ↓ev_tV, ↓ev_tTr, ↓ev_tAn, ↓ev_tOr, ↓ev_tNo, ↓ev_NotB, ↓ev_AnB, ↓ev_OrB, ↓ev_Tup, ↓ev_Lst, ↓ev_CP, ↓ev_ML, ↓ev_Sli, ↓ev_oN, ↓ev_oS, ↓ev_Ch, ↓ev_gN, ↓ev_gsNil, ↓ev_gsCons, ↓ev_gT, ↓ev_Seq, ↓ev_Asg, ↓ev_Par, ↓ev_Ret, ↓ev_Drop, ↓ev_sIf, ↓ev_Next, ↓ev_Brk, ↓ev_Cont, ↓ev_RetN, ↓ev_Sub, ↓ev_For, ↓ev_body, ↓ev_iE, ↓ev_iR1, ↓ev_iR2, ↓ev_iZ, ↓ev_iEn, ↓ev_item, ↓ev_Lc, ↓ev_Yes, ↓ev_Par3, ↓ev_As2, ↓ev_As4, ↓ev_CV, ↓ev_Fld, ↓ev_Mk, ↓ev_Mk0, ↓ev_Mt, ↓ev_ForM, ↓ev_bodyM, ↓ev_gTmT, ↓ev_gTmR, ↓ev_AsgM, ↓ev_Star, ↓ev_Dc, ↓ev_iRv, kForM_e, kAsgM_e, kSt1_e, kSt2_e, kSt3_e, seqT, seqRf, popRf, insRf, inE, notInE, kDc_e, kRv_e, revT, revL, vOf_e, kO_e, kO2_e, kU_e, kCons_e, kCons2_e, kL_e, kIf_t, kIf_f, kB_e, kTr_e, kTr2_e, kAn_t, kAn_f, kOr_t, kOr_f, kNo_e, kNotB_e, kAnB_t, kAnB_f, kOrB_t, kOrB_f, kTup_e, kLst_e, kCP_e, kD_e, kML_e, kML2_e, kS1_e, kS2_e, kS3_e, kI_e, kCh1_e, kCh2_e, kCh3_t, kCh3_f, kAsg_e, kNx_e, kRet_e, kDrop_e, kSif_t, kSif_f, kSub1_e, kSub2_e, kSub3_e, kNxM_e, kFor_e, kBody_e, kIE_e, kSrc_e, kR1_e, kR2_e, kR2b_e, kZ1_e, kZ2_e, kEn_e, kMap_e, kMap2_e, kIt1_e, kIt2_t, kIt2_f, kSome_e, kLc_e, kLc2_e, kGc_e, par3_e, kAs2_e, kAs3_e, kAs4_e, kAs5_e, kAs6_e, fnOf2_e, fnV_e, kCV_e, kFld1_e, kFld2_e, kMk_e, kMk2_e, kMt_e, kMt2_e, kMt3_e, gFldE, setFE, metE, insAt_zero, insAt_succ, ob_s, ob_n, then_nx, then_rt, then_bk, then_ct, par2_e, turn_nx, turn_ct, turn_bk, turn_rt, runT_nil, runT_cons, mapT_nil, mapT_cons, finP_nx, finM_rt, finM_nx, addE, subE, negE, cmpE, ixT, truI, truB, at0, at1, at2, at3, List.getElem?_cons_zero, List.getElem?_cons_succ, List.set_cons_zero, List.set_cons_succ, List.length_cons, List.length_nil, Nat.reduceAdd, Nat.reduceLeDiff, if_true, if_false, reduceIte, reduceCtorEq, id_eq, Bool.not_true, Bool.not_false, Bool.false_eq_true, and_self, Int.reduceLE, Int.reduceLT, Int.reduceNeg, decide_true, decide_false, Option.toList_some, Option.toList_none, List.cons_append, List.nil_append, ixRf, tupRf, lenRf, listRf, isLstRf, appRf, revRf, setRf, itemsRf, itemsT, itemsL, zipT, zipRf, allRf, anyRf, sumRf, tupT, slRf, isiE, t2E, lenT, lstAt_zero, lstAt_succ, Option.isSome_some, Nat.reduceLT, Bool.or_true, Bool.or_false, Bool.true_or, Bool.false_or, gIsN, gNotN, D.isNon, wipeD, eT1, eI1, sooner]
  | some p =>
    have c := compare_flat hu he (by omega)
    by_cases h : u - p.1 < 0
    · simp only [↓momN, ↓momY, ↓ev_V, ↓ev_C, ↓ev_O, ↓ev_U, ↓ev_Nil, ↓ev_Cons, ↓ev_L, ↓ev_If, ↓ev_tV, ↓ev_tTr, ↓ev_tAn, ↓ev_tOr, ↓ev_tNo, ↓ev_NotB, ↓ev_AnB, ↓ev_OrB, ↓ev_Tup, ↓ev_Lst, ↓ev_CP, ↓ev_ML, ↓ev_Sli, ↓ev_oN, ↓ev_oS, ↓ev_Ch, ↓ev_gN, ↓ev_gsNil, ↓ev_gsCons, ↓ev_gT, ↓ev_Seq, ↓ev_Asg, ↓ev_Par, ↓ev_Ret, ↓ev_Drop, ↓ev_sIf, ↓ev_Next, ↓ev_Brk, ↓ev_Cont, ↓ev_RetN, ↓ev_Sub, ↓ev_For, ↓ev_body, ↓ev_iE, ↓ev_iR1, ↓ev_iR2, ↓ev_iZ, ↓ev_iEn, ↓ev_item, ↓ev_Lc, ↓ev_Yes, ↓ev_Par3, ↓ev_As2, ↓ev_As4, ↓ev_CV, ↓ev_Fld, ↓ev_Mk, ↓ev_Mk0, ↓ev_Mt, ↓ev_ForM, ↓ev_bodyM, ↓ev_gTmT, ↓ev_gTmR, ↓ev_AsgM, ↓ev_Star, ↓ev_Dc, ↓ev_iRv, kForM_e, kAsgM_e, kSt1_e, kSt2_e, kSt3_e, seqT, seqRf, popRf, insRf, inE, notInE, kDc_e, kRv_e, revT, revL, vOf_e, kO_e, kO2_e, kU_e, kCons_e, kCons2_e, kL_e, kIf_t, kIf_f, kB_e, kTr_e, kTr2_e, kAn_t, kAn_f, kOr_t, kOr_f, kNo_e, kNotB_e, kAnB_t, kAnB_f, kOrB_t, kOrB_f, kTup_e, kLst_e, kCP_e, kD_e, kML_e, kML2_e, kS1_e, kS2_e, kS3_e, kI_e, kCh1_e, kCh2_e, kCh3_t, kCh3_f, kAsg_e, kNx_e, kRet_e, kDrop_e, kSif_t, kSif_f, kSub1_e, kSub2_e, kSub3_e, kNxM_e, kFor_e, kBody_e, kIE_e, kSrc_e, kR1_e, kR2_e, kR2b_e, kZ1_e, kZ2_e, kEn_e, kMap_e, kMap2_e, kIt1_e, kIt2_t, kIt2_f, kSome_e, kLc_e, kLc2_e, kGc_e, par3_e, kAs2_e, kAs3_e, kAs4_e, kAs5_e, kAs6_e, fnOf2_e, fnV_e, kCV_e, kFld1_e, kFld2_e, kMk_e, kMk2_e, kMt_e, kMt2_e, kMt3_e, gFldE, setFE, metE, insAt_zero, insAt_succ, ob_s, ob_n, then_nx, then_rt, then_bk, then_ct, par2_e, turn_nx, turn_ct, turn_bk, turn_rt, runT_nil, runT_cons, mapT_nil, mapT_cons, finP_nx, finM_rt, finM_nx, addE, subE, negE, cmpE, ixT, truI, truB, at0, at1, at2, at3, List.getElem?_cons_zero, List.getElem?_cons_succ, List.set_cons_zero, List.set_cons_succ, List.length_cons, List.length_nil, Nat.reduceAdd, Nat.reduceLeDiff, if_true, if_false, reduceIte, reduceCtorEq, id_eq, Bool.not_true, Bool.not_false, Bool.false_eq_true, and_self, Int.reduceLE, Int.reduceLT, Int.reduceNeg, decide_true, decide_false, Option.toList_some, Option.toList_none, List.cons_append, List.nil_append, ixRf, tupRf, lenRf, listRf, isLstRf, appRf, revRf, setRf, itemsRf, itemsT, itemsL, zipT, zipRf, allRf, anyRf, sumRf, tupT, slRf, isiE, t2E, lenT, lstAt_zero, lstAt_succ, Option.isSome_some, Nat.reduceLT, Bool.or_true, Bool.or_false, Bool.true_or, Bool.false_or, gIsN, gNotN, D.isNon, wipeD, eT1, eI1, sooner, fv2, c, sgn_lt, decide_eq_true h, if_pos h]
    · simp only [↓momN, ↓momY, ↓ev_V, ↓ev_C, ↓ev_O, ↓ev_U, ↓ev_Nil, ↓ev_Cons, ↓ev_L, ↓ev_If, ↓ev_tV, ↓ev_tTr, ↓ev_tAn, ↓ev_tOr, ↓ev_tNo, ↓ev_NotB, ↓ev_AnB, ↓ev_OrB, ↓ev_Tup, ↓ev_Lst, ↓ev_CP, ↓ev_ML, ↓ev_Sli, ↓ev_oN, ↓ev_oS, ↓ev_Ch, ↓ev_gN, ↓ev_gsNil, ↓ev_gsCons, ↓ev_gT, ↓ev_Seq, ↓ev_Asg, ↓ev_Par, ↓ev_Ret, ↓ev_Drop, ↓ev_sIf, ↓ev_Next, ↓ev_Brk, ↓ev_Cont, ↓ev_RetN, ↓ev_Sub, ↓ev_For, ↓ev_body, ↓ev_iE, ↓ev_iR1, ↓ev_iR2, ↓ev_iZ, ↓ev_iEn, ↓ev_item, ↓ev_Lc, ↓ev_Yes, ↓ev_Par3, ↓ev_As2, ↓ev_As4, ↓ev_CV, ↓ev_Fld, ↓ev_Mk, ↓ev_Mk0, ↓ev_Mt, ↓ev_ForM, ↓ev_bodyM, ↓ev_gTmT, ↓ev_gTmR, ↓ev_AsgM, ↓ev_Star, ↓ev_Dc, ↓ev_iRv, kForM_e, kAsgM_e, kSt1_e, kSt2_e, kSt3_e, seqT, seqRf, popRf, insRf, inE, notInE, kDc_e, kRv_e, revT, revL, vOf_e, kO_e, kO2_e, kU_e, kCons_e, kCons2_e, kL_e, kIf_t, kIf_f, kB_e, kTr_e, kTr2_e, kAn_t, kAn_f, kOr_t, kOr_f, kNo_e, kNotB_e, kAnB_t, kAnB_f, kOrB_t, kOrB_f, kTup_e, kLst_e, kCP_e, kD_e, kML_e, kML2_e, kS1_e, kS2_e, kS3_e, kI_e, kCh1_e, kCh2_e, kCh3_t, kCh3_f, kAsg_e, kNx_e, kRet_e, kDrop_e, kSif_t, kSif_f, kSub1_e, kSub2_e, kSub3_e, kNxM_e, kFor_e, kBody_e, kIE_e, kSrc_e, kR1_e, kR2_e, kR2b_e, kZ1_e, kZ2_e, kEn_e, kMap_e, kMap2_e, kIt1_e, kIt2_t, kIt2_f, kSome_e, kLc_e, kLc2_e, kGc_e, par3_e, kAs2_e, kAs3_e, kAs4_e, kAs5_e, kAs6_e, fnOf2_e, fnV_e, kCV_e, kFld1_e, kFld2_e, kMk_e, kMk2_e, kMt_e, kMt2_e, kMt3_e, gFldE, setFE, metE, insAt_zero, insAt_succ, ob_s, ob_n, then_nx, then_rt, then_bk, then_ct, par2_e, turn_nx, turn_ct, turn_bk, turn_rt, runT_nil, runT_cons, mapT_nil, mapT_cons, finP_nx, finM_rt, finM_nx, addE, subE, negE, cmpE, ixT, truI, truB, at0, at1, at2, at3, List.getElem?_cons_zero, List.getElem?_cons_succ, List.set_cons_zero, List.set_cons_succ, List.length_cons, List.length_nil, Nat.reduceAdd, Nat.reduceLeDiff, if_true, if_false, reduceIte, reduceCtorEq, id_eq, Bool.not_true, Bool.not_false, Bool.false_eq_true, and_self, Int.reduceLE, Int.reduceLT, Int.reduceNeg, decide_true, decide_false, Option.toList_some, Option.toList_none, List.cons_append, List.nil_append, ixRf, tupRf, lenRf, listRf, isLstRf, appRf, revRf, setRf, itemsRf, itemsT, itemsL, zipT, zipRf, allRf, anyRf, sumRf, tupT, slRf, isiE, t2E, lenT, lstAt_zero, lstAt_succ, Option.isSome_some, Nat.reduceLT, Bool.or_true, Bool.or_false, Bool.true_or, Bool.false_or, gIsN, gNotN, D.isNon, wipeD, eT1, eI1, sooner, fv2, c, sgn_lt, decide_eq_false h, if_neg h]
theorem met_bnd (hn : 2 * n ≤ 9000) {b e : Mk1} (hb : b.B n) (he : e.B n) {t u : Rat} (ht : Rb n t) (hu : Rb n u) (i j : Int) :
    bodyG (gN 6) (sSeq metA (sSeq metB metC)) (eSp (.bnd t u i j)) [x0, some (.fn 2), some (eT1 b), some (eT1 e), some (eI1 b), some (eI1 e), x6] M = some (.nx [x0, some (.fn 2), some (eT1 (later b t i)), some (eT1 (sooner e u j)), some (eI1 (later b t i)), some (eI1 (sooner e u j)), some (eSp (.bnd t u i j))], M) := by
  have a : ∀ K : FS, sSeq metA K [x0, some (.fn 2), some (eT1 b), some (eT1 e), some (eI1 b), some (eI1 e), some (.tup [mom t, mom u, .int i, .int j])] M = K [x0, some (.fn 2), some (eT1 b), some (eT1 e), some (eI1 b), some (eI1 e), some (.tup [mom t, mom u, .int i, .int j])] M := fun K => by
    unfold metA
    simp only [↓ev_V, ↓ev_C, ↓ev_O, ↓ev_U, ↓ev_Nil, ↓ev_Cons, ↓ev_L, ↓ev_If, ↓ev_tV, ↓ev_tTr, ↓ev_tAn, ↓ev_tOr, ↓ev_tNo, ↓ev_NotB, ↓ev_AnB, ↓ev_OrB, ↓ev_Tup, ↓ev_Lst, ↓ev_CP, ↓ev_ML, ↓ev_Sli, ↓ev_oN, ↓ev_oS, ↓ev_Ch, ↓ev_gN, ↓ev_gsNil, ↓ev_gsCons, ↓ev_gT, ↓ev_Seq, ↓ev_Asg, ↓ev_Par, ↓ev_Ret, ↓ev_Drop, ↓ev_sIf, ↓ev_Next, ↓ev_Brk, ↓ev_Cont, ↓ev_RetN, ↓ev_Sub, ↓ev_For, ↓ev_body, ↓ev_iE, ↓ev_iR1, ↓ev_iR2, ↓ev_iZ, ↓ev_iEn, ↓ev_item, ↓ev_Lc, ↓ev_Yes, ↓ev_Par3, ↓ev_As2, ↓ev_As4, ↓ev_CV, ↓ev_Fld, ↓ev_Mk, ↓ev_Mk0, ↓ev_Mt, ↓ev_ForM, ↓ev_bodyM, ↓ev_gTmT, ↓ev_gTmR, ↓ev_AsgM, ↓ev_Star, ↓ev_Dc, ↓ev_iRv, kForM_e, kAsgM_e, kSt1_e, kSt2_e, kSt3_e, seqT, seqRf, popRf, insRf, inE, notInE, kDc_e, kRv_e, revT, revL, vOf_e, kO_e, kO2_e, kU_e, kCons_e, kCons2_e, kL_e, kIf_t, kIf_f, kB_e, kTr_e, kTr2_e, kAn_t, kAn_f, kOr_t, kOr_f, kNo_e, kNotB_e, kAnB_t, kAnB_f, kOrB_t, kOrB_f, kTup_e, kLst_e, kCP_e, kD_e, kML_e, kML2_e, kS1_e, kS2_e, kS3_e, kI_e, kCh1_e, kCh2_e, kCh3_t, kCh3_f, kAsg_e, kNx_e, kRet_e, kDrop_e, kSif_t, kSif_f, kSub1_e, kSub2_e, kSub3_e, kNxM_e, kFor_e, kBody_e, kIE_e, kSrc_e, kR1_e, kR2_e, kR2b_e, kZ1_e, kZ2_e, kEn_e, kMap_e, kMap2_e, kIt1_e, kIt2_t, kIt2_f, kSome_e, kLc_e, kLc2_e, kGc_e, par3_e, kAs2_e, kAs3_e, kAs4_e, kAs5_e, kAs6_e, fnOf2_e, fnV_e, kCV_e, kFld1_e, kFld2_e, kMk_e, kMk2_e, kMt_e, kMt2_e, kMt3_e, gFldE, setFE, metE, insAt_zero, insAt_succ, ob_s, ob_n, then_nx, then_rt, then_bk, then_ct, par2_e, turn_nx, turn_ct, turn_bk, turn_rt, runT_nil, runT_cons, mapT_nil, mapT_cons, finP_nx, finM_rt, finM_nx, addE, subE, negE, cmpE, ixT, truI, truB, at0, at1, at2, at3, List.getElem?_cons_zero, List.getElem?_cons_succ, List.set_cons_zero, List.set_cons_succ, List.length_cons, List.length_nil, Nat.reduceAdd, Nat.reduceLeDiff, if_true, if_false, reduceIte, reduceCtorEq, id_eq, Bool.not_true, Bool.not_false, Bool.false_eq_true, and_self, Int.reduceLE, Int.reduceLT, Int.reduceNeg, decide_true, decide_false, Option.toList_some, Option.toList_none, List.cons_append, List.nil_append, ixRf, tupRf, lenRf, listRf, isLstRf, appRf, revRf, setRf, itemsRf, itemsT, itemsL, zipT, zipRf, allRf, anyRf, sumRf, tupT, slRf, isiE, t2E, lenT, lstAt_zero, lstAt_succ, Option.isSome_some, Nat.reduceLT, Bool.or_true, Bool.or_false, Bool.true_or, Bool.false_or, gIsN, gNotN, D.isNon, wipeD]
  have ev : ∀ F : FS, bodyG (gN 6) F (eSp (.bnd t u i j)) [x0, some (.fn 2), some (eT1 b), some (eT1 e), some (eI1 b), some (eI1 e), x6] M = F [x0, some (.fn 2), some (eT1 b), some (eT1 e), some (eI1 b), some (eI1 e), some (.tup [mom t, mom u, .int i, .int j])] M := fun F => by
    simp only [eSp, ↓ev_V, ↓ev_C, ↓ev_O, ↓ev_U, ↓ev_Nil, ↓ev_Cons, ↓ev_L, ↓ev_If, ↓ev_tV, ↓ev_tTr, ↓ev_tAn, ↓ev_tOr, ↓ev_tNo, ↓ev_NotB, ↓ev_AnB, ↓ev_OrB, ↓ev_Tup, ↓ev_Lst, ↓ev_CP, ↓ev_ML, ↓ev_Sli, ↓ev_oN, ↓ev_oS, ↓ev_Ch, ↓ev_gN, ↓ev_gsNil, ↓ev_gsCons, ↓ev_gT, ↓ev_Seq, ↓ev_Asg, ↓ev_Par, ↓ev_Ret, ↓ev_Drop, ↓ev_sIf, ↓ev_Next, ↓ev_Brk, ↓ev_Cont, ↓ev_RetN, ↓ev_Sub, ↓ev_For, ↓ev_body, ↓ev_iE, ↓ev_iR1, ↓ev_iR2, ↓ev_iZ, ↓ev_iEn, ↓ev_item, ↓ev_Lc, ↓ev_Yes, ↓ev_Par3, ↓ev_As2, ↓ev_As4, ↓ev_CV, ↓ev_Fld, ↓ev_Mk, ↓ev_Mk0, ↓ev_Mt, ↓ev_ForM, ↓ev_bodyM, ↓ev_gTmT, ↓ev_gTmR, ↓ev_AsgM, ↓ev_Star, ↓ev_Dc, ↓ev_iRv, kForM_e, kAsgM_e, kSt1_e, kSt2_e, kSt3_e, seqT, seqRf, popRf, insRf, inE, notInE, kDc_e, kRv_e, revT, revL, vOf_e, kO_e, kO2_e, kU_e, kCons_e, kCons2_e, kL_e, kIf_t, kIf_f, kB_e, kTr_e, kTr2_e, kAn_t, kAn_f, kOr_t, kOr_f, kNo_e, kNotB_e, kAnB_t, kAnB_f, kOrB_t, kOrB_f, kTup_e, kLst_e, kCP_e, kD_e, kML_e, kML2_e, kS1_e, kS2_e, kS3_e, kI_e, kCh1_e, kCh2_e, kCh3_t, kCh3_f, kAsg_e, kNx_e, kRet_e, kDrop_e, kSif_t, kSif_f, kSub1_e, kSub2_e, kSub3_e, kNxM_e, kFor_e, kBody_e, kIE_e, kSrc_e, kR1_e, kR2_e, kR2b_e, kZ1_e, kZ2_e, kEn_e, kMap_e, kMap2_e, kIt1_e, kIt2_t, kIt2_f, kSome_e, kLc_e, kLc2_e, kGc_e, par3_e, kAs2_e, kAs3_e, kAs4_e, kAs5_e, kAs6_e, fnOf2_e, fnV_e, kCV_e, kFld1_e, kFld2_e, kMk_e, kMk2_e, kMt_e, kMt2_e, kMt3_e, gFldE, setFE, metE, insAt_zero, insAt_succ, ob_s, ob_n, then_nx, then_rt, then_bk, then_ct, par2_e, turn_nx, turn_ct, turn_bk, turn_rt, runT_nil, runT_cons, mapT_nil, mapT_cons, finP_nx, finM_rt, finM_nx, addE, subE, negE, cmpE, ixT, truI, truB, at0, at1, at2, at3, List.getElem?_cons_zero, List.getElem?_cons_succ, List.set_cons_zero, List.set_cons_succ, List.length_cons, List.length_nil, Nat.reduceAdd, Nat.reduceLeDiff, if_true, if_false, reduceIte, reduceCtorEq, id_eq, Bool.not_true, Bool.not_false, Bool.false_eq_true, and_self, Int.reduceLE, Int.reduceLT, Int.reduceNeg, decide_true, decide_false, Option.toList_some, Option.toList_none, List.cons_append, List.nil_append, ixRf, tupRf, lenRf, listRf, isLstRf, appRf, revRf, setRf, itemsRf, itemsT, itemsL, zipT, zipRf, allRf, anyRf, sumRf, tupT, slRf, isiE, t2E, lenT, lstAt_zero, lstAt_succ, Option.isSome_some, Nat.reduceLT, Bool.or_true, Bool.or_false, Bool.true_or, Bool.false_or, gIsN, gNotN, D.isNon, wipeD]
  rw [ev, a, metB_e hn hb ht, metC_e hn he hu]
  rfl
theorem met_alw {b e : Mk1} : bodyG (gN 6) (sSeq metA (sSeq metB metC)) (eSp .alw) [x0, some (.fn 2), some (eT1 b), some (eT1 e), some (eI1 b), some (eI1 e), x6] M = some (.nx [x0, some (.fn 2), some (eT1 b), some (eT1 e), some (eI1 b), some (eI1 e), some (eSp .alw)], M) := by
  unfold metA metB metC
  simp only [eSp, ↓ev_V, ↓ev_C, ↓ev_O, ↓ev_U, ↓ev_Nil, ↓ev_Cons, ↓ev_L, ↓ev_If, ↓ev_tV, ↓ev_tTr, ↓ev_tAn, ↓ev_tOr, ↓ev_tNo, ↓ev_NotB, ↓ev_AnB, ↓ev_OrB, ↓ev_Tup, ↓ev_Lst, ↓ev_CP, ↓ev_ML, ↓ev_Sli, ↓ev_oN, ↓ev_oS, ↓ev_Ch, ↓ev_gN, ↓ev_gsNil, ↓ev_gsCons, ↓ev_gT, ↓ev_Seq, ↓ev_Asg, ↓ev_Par, ↓ev_Ret, ↓ev_Drop, ↓ev_sIf, ↓ev_Next, ↓ev_Brk, ↓ev_Cont, ↓ev_RetN, ↓ev_Sub, ↓ev_For, ↓ev_body, ↓ev_iE, ↓ev_iR1, ↓ev_iR2, ↓ev_iZ, ↓ev_iEn, ↓ev_item, ↓ev_Lc, ↓ev_Yes, ↓ev_Par3, ↓ev_As2, ↓ev_As4, ↓ev_CV, ↓ev_Fld, ↓ev_Mk, ↓ev_Mk0, ↓ev_Mt, ↓ev_ForM, ↓ev_bodyM, ↓ev_gTmT, ↓ev_gTmR, ↓ev_AsgM, ↓ev_Star, ↓ev_Dc, ↓ev_iRv, kForM_e, kAsgM_e, kSt1_e, kSt2_e, kSt3_e, seqT, seqRf, popRf, insRf, inE, notInE, kDc_e, kRv_e, revT, revL, vOf_e, kO_e, kO2_e, kU_e, kCons_e, kCons2_e, kL_e, kIf_t, kIf_f, kB_e, kTr_e, kTr2_e, kAn_t, kAn_f, kOr_t, kOr_f, kNo_e, kNotB_e, kAnB_t, kAnB_f, kOrB_t, kOrB_f, kTup_e, kLst_e, kCP_e, kD_e, kML_e, kML2_e, kS1_e, kS2_e, kS3_e, kI_e, kCh1_e, kCh2_e, kCh3_t, kCh3_f, kAsg_e, kNx_e, kRet_e, kDrop_e, kSif_t, kSif_f, kSub1_e, kSub2_e, kSub3_e, kNxM_e, kFor_e, kBody_e, kIE_e, kSrc_e, kR1_e, kR2_e, kR2b_e, kZ1_e, kZ2_e, kEn_e, kMap_e, kMap2_e, kIt1_e, kIt2_t, kIt2_f, kSome_e, kLc_e, kLc2_e, kGc_e, par3_e, kAs2_e, kAs3_e, kAs4_e, kAs5_e, kAs6_e, fnOf2_e, fnV_e, kCV_e, kFld1_e, kFld2_e, kMk_e, kMk2_e, kMt_e, kMt2_e, kMt3_e, gFldE, setFE, metE, insAt_zero, insAt_succ, ob_s, ob_n, then_nx, then_rt, then_bk, then_ct, par2_e, turn_nx, turn_ct, turn_bk, turn_rt, runT_nil, runT_cons, mapT_nil, mapT_cons, finP_nx, finM_rt, finM_nx, addE, subE, negE, cmpE, ixT, truI, truB, at0, at1, at2, at3, List.getElem?_cons_zero, List.getElem?_cons_succ, List.set_cons_zero, List.set_cons_succ, List.length_cons, List.length_nil, Nat.reduceAdd, Nat.reduceLeDiff, if_true, if_false, reduceIte, reduceCtorEq, id_eq, Bool.not_true, Bool.not_false, Bool.false_eq_true, and_self, Int.reduceLE, Int.reduceLT, Int.reduceNeg, decide_true, decide_false, Option.toList_some, Option.toList_none, List.cons_append, List.nil_append, ixRf, tupRf, lenRf, listRf, isLstRf, appRf, revRf, setRf, itemsRf, itemsT, itemsL, zipT, zipRf, allRf, anyRf, sumRf, tupT, slRf, isiE, t2E, lenT, lstAt_zero, lstAt_succ, Option.isSome_some, Nat.reduceLT, Bool.or_true, Bool.or_false, Bool.true_or, Bool.false_or, gIsN, gNotN, D.isNon, wipeD]
theorem met_mis (ρ : Rho) (hρ : ρ.length = 7) : bodyG (gN 6) (sSeq metA (sSeq metB metC)) (eSp .mis) ρ M = some (.rt .non, M) := by
  match ρ, hρ with
  | [a0, a1, a2, a3, a4, a5, a6], _ =>
    unfold metA
    simp only [eSp, ↓ev_V, ↓ev_C, ↓ev_O, ↓ev_U, ↓ev_Nil, ↓ev_Cons, ↓ev_L, ↓ev_If, ↓ev_tV, ↓ev_tTr, ↓ev_tAn, ↓ev_tOr, ↓ev_tNo, ↓ev_NotB, ↓ev_AnB, ↓ev_OrB, ↓ev_Tup, ↓ev_Lst, ↓ev_CP, ↓ev_ML, ↓ev_Sli, ↓ev_oN, ↓ev_oS, ↓ev_Ch, ↓ev_gN, ↓ev_gsNil, ↓ev_gsCons, ↓ev_gT, ↓ev_Seq, ↓ev_Asg, ↓ev_Par, ↓ev_Ret, ↓ev_Drop, ↓ev_sIf, ↓ev_Next, ↓ev_Brk, ↓ev_Cont, ↓ev_RetN, ↓ev_Sub, ↓ev_For, ↓ev_body, ↓ev_iE, ↓ev_iR1, ↓ev_iR2, ↓ev_iZ, ↓ev_iEn, ↓ev_item, ↓ev_Lc, ↓ev_Yes, ↓ev_Par3, ↓ev_As2, ↓ev_As4, ↓ev_CV, ↓ev_Fld, ↓ev_Mk, ↓ev_Mk0, ↓ev_Mt, ↓ev_ForM, ↓ev_bodyM, ↓ev_gTmT, ↓ev_gTmR, ↓ev_AsgM, ↓ev_Star, ↓ev_Dc, ↓ev_iRv, kForM_e, kAsgM_e, kSt1_e, kSt2_e, kSt3_e, seqT, seqRf, popRf, insRf, inE, notInE, kDc_e, kRv_e, revT, revL, vOf_e, kO_e, kO2_e, kU_e, kCons_e, kCons2_e, kL_e, kIf_t, kIf_f, kB_e, kTr_e, kTr2_e, kAn_t, kAn_f, kOr_t, kOr_f, kNo_e, kNotB_e, kAnB_t, kAnB_f, kOrB_t, kOrB_f, kTup_e, kLst_e, kCP_e, kD_e, kML_e, kML2_e, kS1_e, kS2_e, kS3_e, kI_e, kCh1_e, kCh2_e, kCh3_t, kCh3_f, kAsg_e, kNx_e, kRet_e, kDrop_e, kSif_t, kSif_f, kSub1_e, kSub2_e, kSub3_e, kNxM_e, kFor_e, kBody_e, kIE_e, kSrc_e, kR1_e, kR2_e, kR2b_e, kZ1_e, kZ2_e, kEn_e, kMap_e, kMap2_e, kIt1_e, kIt2_t, kIt2_f, kSome_e, kLc_e, kLc2_e, kGc_e, par3_e, kAs2_e, kAs3_e, kAs4_e, kAs5_e, kAs6_e, fnOf2_e, fnV_e, kCV_e, kFld1_e, kFld2_e, kMk_e, kMk2_e, kMt_e, kMt2_e, kMt3_e, gFldE, setFE, metE, insAt_zero, insAt_succ, ob_s, ob_n, then_nx, then_rt, then_bk, then_ct, par2_e, turn_nx, turn_ct, turn_bk, turn_rt, runT_nil, runT_cons, mapT_nil, mapT_cons, finP_nx, finM_rt, finM_nx, addE, subE, negE, cmpE, ixT, truI, truB, at0, at1, at2, at3, List.getElem?_cons_zero, List.getElem?_cons_succ, List.set_cons_zero, List.set_cons_succ, List.length_cons, List.length_nil, Nat.reduceAdd, Nat.reduceLeDiff, if_true, if_false, reduceIte, reduceCtorEq, id_eq, Bool.not_true, Bool.not_false, Bool.false_eq_true, and_self, Int.reduceLE, Int.reduceLT, Int.reduceNeg, decide_true, decide_false, Option.toList_some, Option.toList_none, List.cons_append, List.nil_append, ixRf, tupRf, lenRf, listRf, isLstRf, appRf, revRf, setRf, itemsRf, itemsT, itemsL, zipT, zipRf, allRf, anyRf, sumRf, tupT, slRf, isiE, t2E, lenT, lstAt_zero, lstAt_succ, Option.isSome_some, Nat.reduceLT, Bool.or_true, Bool.or_false, Bool.true_or, Bool.false_or, gIsN, gNotN, D.isNon, wipeD]
theorem met_run {gd : Mem → Prop} (g : gd M) (hn : 2 * n ≤ 9000) : ∀ (l : List Spn) (b e : Mk1) (x6 : Option D), (∀ s ∈ l, s.B n) → b.B n → e.B n →
    ∃ y6, runG gd (bodyG (gN 6) (sSeq metA (sSeq metB metC))) (l.map eSp) [x0, some (.fn 2), some (eT1 b), some (eT1 e), some (eI1 b), some (eI1 e), x6] M =
      some ((match metL l b e with | none => .rt .non | some p => .nx [x0, some (.fn 2), some (eT1 p.1), some (eT1 p.2), some (eI1 p.1), some (eI1 p.2), y6]), M)
  | [], b, e, x6, _, _, _ => ⟨x6, runG_nil _ _ _ _ g⟩
  | .mis :: l, b, e, x6, hl, hb, he => ⟨none, by
    rw [List.map_cons, runG_cons _ _ _ _ _ _ g, met_mis _ rfl]
    rfl⟩
  | .alw :: l, b, e, x6, hl, hb, he => by
    obtain ⟨y, ih⟩ := met_run g hn l b e (some (eSp .alw)) (fun s hs => hl s (List.mem_cons_of_mem _ hs)) hb he
    exact ⟨y, by rw [List.map_cons, runG_cons _ _ _ _ _ _ g, met_alw]; exact ih⟩
  | .bnd t u i j :: l, b, e, x6, hl, hb, he => by
    have hs := hl _ List.mem_cons_self
    obtain ⟨y, ih⟩ := met_run g hn l (later b t i) (sooner e u j) (some (eSp (.bnd t u i j))) (fun s hs => hl s (List.mem_cons_of_mem _ hs)) (later_B hb hs.1) (sooner_B he hs.2)
    exact ⟨y, by rw [List.map_cons, runG_cons _ _ _ _ _ _ g, met_bnd hn hb he hs.1 hs.2]; exact ih⟩
theorem met_e {r : Nat} {l : List Spn} (hr : M[r]? = some (.lst (l.map eSp))) (hn : 2 * n ≤ 9000) (hl : ∀ s ∈ l, s.B n) : m_met [.rf r, .fn 2] M = some (metD l, M) := by
  have fv2 : fv 2 = some m_compare := rfl
  obtain ⟨y, e⟩ := met_run (x0 := some (.rf r)) (M := M) (gd := fun M' => M'[r]? = some (.lst (l.map eSp))) hr hn l none none none hl trivial trivial
  have z : lstAt M r = some (l.map eSp) := lstAt_of hr
  have e' : runG (fun M' => M'[r]? = some (.lst (l.map eSp))) (bodyG (gN 6) (sSeq metA (sSeq metB metC))) (l.map eSp) [some (.rf r), some (.fn 2), some .non, some .non, some .non, some .non, none] M = _ := e
  unfold metA metB metC at e'
  rw [e_met]
  unfold b_met metD
  cases hm : metL l none none with
  | none =>
    rw [hm] at e'
    simp only [↓ev_V, ↓ev_C, ↓ev_O, ↓ev_U, ↓ev_Nil, ↓ev_Cons, ↓ev_L, ↓ev_If, ↓ev_tV, ↓ev_tTr, ↓ev_tAn, ↓ev_tOr, ↓ev_tNo, ↓ev_NotB, ↓ev_AnB, ↓ev_OrB, ↓ev_Tup, ↓ev_Lst, ↓ev_CP, ↓ev_ML, ↓ev_Sli, ↓ev_oN, ↓ev_oS, ↓ev_Ch, ↓ev_gN, ↓ev_gsNil, ↓ev_gsCons, ↓ev_gT, ↓ev_Seq, ↓ev_Asg, ↓ev_Par, ↓ev_Ret, ↓ev_Drop, ↓ev_sIf, ↓ev_Next, ↓ev_Brk, ↓ev_Cont, ↓ev_RetN, ↓ev_Sub, ↓ev_For, ↓ev_body, ↓ev_iE, ↓ev_iR1, ↓ev_iR2, ↓ev_iZ, ↓ev_iEn, ↓ev_item, ↓ev_Lc, ↓ev_Yes, ↓ev_Par3, ↓ev_As2, ↓ev_As4, ↓ev_CV, ↓ev_Fld, ↓ev_Mk, ↓ev_Mk0, ↓ev_Mt, ↓ev_ForM, ↓ev_bodyM, ↓ev_gTmT, ↓ev_gTmR, ↓ev_AsgM, ↓ev_Star, ↓ev_Dc, ↓ev_iRv, kForM_e, kAsgM_e, kSt1_e, kSt2_e, kSt3_e, seqT, seqRf, popRf, insRf, inE, notInE, kDc_e, kRv_e, revT, revL, vOf_e, kO_e, kO2_e, kU_e, kCons_e, kCons2_e, kL_e, kIf_t, kIf_f, kB_e, kTr_e, kTr2_e, kAn_t, kAn_f, kOr_t, kOr_f, kNo_e, kNotB_e, kAnB_t, kAnB_f, kOrB_t, kOrB_f, kTup_e, kLst_e, kCP_e, kD_e, kML_e, kML2_e, kS1_e, kS2_e, kS3_e, kI_e, kCh1_e, kCh2_e, kCh3_t, kCh3_f, kAsg_e, kNx_e, kRet_e, kDrop_e, kSif_t, kSif_f, kSub1_e, kSub2_e, kSub3_e, kNxM_e, kFor_e, kBody_e, kIE_e, kSrc_e, kR1_e, kR2_e, kR2b_e, kZ1_e, kZ2_e, kEn_e, kMap_e, kMap2_e, kIt1_e, kIt2_t, kIt2_f, kSome_e, kLc_e, kLc2_e, kGc_e, par3_e, kAs2_e, kAs3_e, kAs4_e, kAs5_e, kAs6_e, fnOf2_e, fnV_e, kCV_e, kFld1_e, kFld2_e, kMk_e, kMk2_e, kMt_e, kMt2_e, kMt3_e, gFldE, setFE, metE, insAt_zero, insAt_succ, ob_s, ob_n, then_nx, then_rt, then_bk, then_ct, par2_e, turn_nx, turn_ct, turn_bk, turn_rt, runT_nil, runT_cons, mapT_nil, mapT_cons, finP_nx, finM_rt, finM_nx, addE, subE, negE, cmpE, ixT, truI, truB, at0, at1, at2, at3, List.getElem?_cons_zero, List.getElem?_cons_succ, List.set_cons_zero, List.set_cons_succ, List.length_cons, List.length_nil, Nat.reduceAdd, Nat.reduceLeDiff, if_true, if_false, reduceIte, reduceCtorEq, id_eq, Bool.not_true, Bool.not_false, Bool.false_eq_true, and_self, Int.reduceLE, Int.reduceLT, Int.reduceNeg, decide_true, decide_false, Option.toList_some, Option.toList_none, List.cons_append, List.nil_append, ixRf, tupRf, lenRf, listRf, isLstRf, appRf, revRf, setRf, itemsRf, itemsT, itemsL, zipT, zipRf, allRf, anyRf, sumRf, tupT, slRf, isiE, t2E, lenT, lstAt_zero, lstAt_succ, Option.isSome_some, Nat.reduceLT, Bool.or_true, Bool.or_false, Bool.true_or, Bool.false_or, gIsN, gNotN, D.isNon, wipeD, z, e']
  | some p =>
    obtain ⟨b, c⟩ := p
    obtain ⟨hb, hc⟩ := metL_B l none none b c hl trivial trivial hm
    rw [hm] at e'
    dsimp only at e'
    cases b with
    | none => simp only [↓momN, ↓momY, ↓ev_V, ↓ev_C, ↓ev_O, ↓ev_U, ↓ev_Nil, ↓ev_Cons, ↓ev_L, ↓ev_If, ↓ev_tV, ↓ev_tTr, ↓ev_tAn, ↓ev_tOr, ↓ev_tNo, ↓ev_NotB, ↓ev_AnB, ↓ev_OrB, ↓ev_Tup, ↓ev_Lst, ↓ev_CP, ↓ev_ML, ↓ev_Sli, ↓ev_oN, ↓ev_oS, ↓ev_Ch, ↓ev_gN, ↓ev_gsNil, ↓ev_gsCons, ↓ev_gT, ↓ev_Seq, ↓ev_Asg, ↓ev_Par, ↓ev_Ret, ↓ev_Drop, ↓ev_sIf, ↓ev_Next, ↓ev_Brk, ↓ev_Cont, ↓ev_RetN, ↓ev_Sub, ↓ev_For, ↓ev_body, ↓ev_iE, ↓ev_iR1, ↓ev_iR2, ↓ev_iZ, ↓ev_iEn, ↓ev_item, ↓ev_Lc, ↓ev_Yes, ↓ev_Par3, ↓ev_As2, ↓ev_As4, ↓ev_CV, ↓ev_Fld, ↓ev_Mk, ↓ev_Mk0, ↓ev_Mt, ↓ev_ForM, ↓ev_bodyM, ↓ev_gTmT, ↓ev_gTmR, ↓ev_AsgM, ↓ev_Star, ↓ev_Dc, ↓ev_iRv, kForM_e, kAsgM_e, kSt1_e, kSt2_e, kSt3_e, seqT, seqRf, popRf, insRf, inE, notInE, kDc_e, kRv_e, revT, revL, vOf_e, kO_e, kO2_e, kU_e, kCons_e, kCons2_e, kL_e, kIf_t, kIf_f, kB_e, kTr_e, kTr2_e, kAn_t, kAn_f, kOr_t, kOr_f, kNo_e, kNotB_e, kAnB_t, kAnB_f, kOrB_t, kOrB_f, kTup_e, kLst_e, kCP_e, kD_e, kML_e, kML2_e, kS1_e, kS2_e, kS3_e, kI_e, kCh1_e, kCh2_e, kCh3_t, kCh3_f, kAsg_e, kNx_e, kRet_e, kDrop_e, kSif_t, kSif_f, kSub1_e, kSub2_e, kSub3_e, kNxM_e, kFor_e, kBody_e, kIE_e, kSrc_e, kR1_e, kR2_e, kR2b_e, kZ1_e, kZ2_e, kEn_e, kMap_e, kMap2_e, kIt1_e, kIt2_t, kIt2_f, kSome_e, kLc_e, kLc2_e, kGc_e, par3_e, kAs2_e, kAs3_e, kAs4_e, kAs5_e, kAs6_e, fnOf2_e, fnV_e, kCV_e, kFld1_e, kFld2_e, kMk_e, kMk2_e, kMt_e, kMt2_e, kMt3_e, gFldE, setFE, metE, insAt_zero, insAt_succ, ob_s, ob_n, then_nx, then_rt, then_bk, then_ct, par2_e, turn_nx, turn_ct, turn_bk, turn_rt, runT_nil, runT_cons, mapT_nil, mapT_cons, finP_nx, finM_rt, finM_nx, addE, subE, negE, cmpE, ixT, truI, truB, at0, at1, at2, at3, List.getElem?_cons_zero, List.getElem?_cons_succ, List.set_cons_zero, List.set_cons_succ, List.length_cons, List.length_nil, Nat.reduceAdd, Nat.reduceLeDiff, if_true, if_false, reduceIte, reduceCtorEq, id_eq, Bool.not_true, Bool.not_false, Bool.false_eq_true, and_self, Int.reduceLE, Int.reduceLT, Int.reduceNeg, decide_true, decide_false, Option.toList_some, Option.toList_none, List.cons_append, List.nil_append, ixRf, tupRf, lenRf, listRf, isLstRf, appRf, revRf, setRf, itemsRf, itemsT, itemsL, zipT, zipRf, allRf, anyRf, sumRf, tupT, slRf, isiE, t2E, lenT, lstAt_zero, lstAt_succ, Option.isSome_some, Nat.reduceLT, Bool.or_true, Bool.or_false, Bool.true_or, Bool.false_or, gIsN, gNotN, D.isNon, wipeD, z, e', eT1, eI1]
    | some p =>
      cases c with
      | none => simp only [↓momN, ↓momY, ↓ev_V, ↓ev_C, ↓ev_O, ↓ev_U, ↓ev_Nil, ↓ev_Cons, ↓ev_L, ↓ev_If, ↓ev_tV, ↓ev_tTr, ↓ev_tAn, ↓ev_tOr, ↓ev_tNo, ↓ev_NotB, ↓ev_AnB, ↓ev_OrB, ↓ev_Tup, ↓ev_Lst, ↓ev_CP, ↓ev_ML, ↓ev_Sli, ↓ev_oN, ↓ev_oS, ↓ev_Ch, ↓ev_gN, ↓ev_gsNil, ↓ev_gsCons, ↓ev_gT, ↓ev_Seq, ↓ev_Asg, ↓ev_Par, ↓ev_Ret, ↓ev_Drop, ↓ev_sIf, ↓ev_Next, ↓ev_Brk, ↓ev_Cont, ↓ev_RetN, ↓ev_Sub, ↓ev_For, ↓ev_body, ↓ev_iE, ↓ev_iR1, ↓ev_iR2, ↓ev_iZ, ↓ev_iEn, ↓ev_item, ↓ev_Lc, ↓ev_Yes, ↓ev_Par3, ↓ev_As2, ↓ev_As4, ↓ev_CV, ↓ev_Fld, ↓ev_Mk, ↓ev_Mk0, ↓ev_Mt, ↓ev_ForM, ↓ev_bodyM, ↓ev_gTmT, ↓ev_gTmR, ↓ev_AsgM, ↓ev_Star, ↓ev_Dc, ↓ev_iRv, kForM_e, kAsgM_e, kSt1_e, kSt2_e, kSt3_e, seqT, seqRf, popRf, insRf, inE, notInE, kDc_e, kRv_e, revT, revL, vOf_e, kO_e, kO2_e, kU_e, kCons_e, kCons2_e, kL_e, kIf_t, kIf_f, kB_e, kTr_e, kTr2_e, kAn_t, kAn_f, kOr_t, kOr_f, kNo_e, kNotB_e, kAnB_t, kAnB_f, kOrB_t, kOrB_f, kTup_e, kLst_e, kCP_e, kD_e, kML_e, kML2_e, kS1_e, kS2_e, kS3_e, kI_e, kCh1_e, kCh2_e, kCh3_t, kCh3_f, kAsg_e, kNx_e, kRet_e, kDrop_e, kSif_t, kSif_f, kSub1_e, kSub2_e, kSub3_e, kNxM_e, kFor_e, kBody_e, kIE_e, kSrc_e, kR1_e, kR2_e, kR2b_e, kZ1_e, kZ2_e, kEn_e, kMap_e, kMap2_e, kIt1_e, kIt2_t, kIt2_f, kSome_e, kLc_e, kLc2_e, kGc_e, par3_e, kAs2_e, kAs3_e, kAs4_e, kAs5_e, kAs6_e, fnOf2_e, fnV_e, kCV_e, kFld1_e, kFld2_e, kMk_e, kMk2_e, kMt_e, kMt2_e, kMt3_e, gFldE, setFE, metE, insAt_zero, insAt_succ, ob_s, ob_n, then_nx, then_rt, then_bk, then_ct, par2_e, turn_nx, turn_ct, turn_bk, turn_rt, runT_nil, runT_cons, mapT_nil, mapT_cons, finP_nx, finM_rt, finM_nx, addE, subE, negE, cmpE, ixT, truI, truB, at0, at1, at2, at3, List.getElem?_cons_zero, List.getElem?_cons_succ, List.set_cons_zero, List.set_cons_succ, List.length_cons, List.length_nil, Nat.reduceAdd, Nat.reduceLeDiff, if_true, if_false, reduceIte, reduceCtorEq, id_eq, Bool.not_true, Bool.not_false, Bool.false_eq_true, and_self, Int.reduceLE, Int.reduceLT, Int.reduceNeg, decide_true, decide_false, Option.toList_some, Option.toList_none, List.cons_append, List.nil_append, ixRf, tupRf, lenRf, listRf, isLstRf, appRf, revRf, setRf, itemsRf, itemsT, itemsL, zipT, zipRf, allRf, anyRf, sumRf, tupT, slRf, isiE, t2E, lenT, lstAt_zero, lstAt_succ, Option.isSome_some, Nat.reduceLT, Bool.or_true, Bool.or_false, Bool.true_or, Bool.false_or, gIsN, gNotN, D.isNon, wipeD, z, e', eT1, eI1]
      | some q =>
        have cm := compare_flat hb hc (by omega)
        by_cases h : p.1 - q.1 < 0
        · simp only [↓momN, ↓momY, ↓ev_V, ↓ev_C, ↓ev_O, ↓ev_U, ↓ev_Nil, ↓ev_Cons, ↓ev_L, ↓ev_If, ↓ev_tV, ↓ev_tTr, ↓ev_tAn, ↓ev_tOr, ↓ev_tNo, ↓ev_NotB, ↓ev_AnB, ↓ev_OrB, ↓ev_Tup, ↓ev_Lst, ↓ev_CP, ↓ev_ML, ↓ev_Sli, ↓ev_oN, ↓ev_oS, ↓ev_Ch, ↓ev_gN, ↓ev_gsNil, ↓ev_gsCons, ↓ev_gT, ↓ev_Seq, ↓ev_Asg, ↓ev_Par, ↓ev_Ret, ↓ev_Drop, ↓ev_sIf, ↓ev_Next, ↓ev_Brk, ↓ev_Cont, ↓ev_RetN, ↓ev_Sub, ↓ev_For, ↓ev_body, ↓ev_iE, ↓ev_iR1, ↓ev_iR2, ↓ev_iZ, ↓ev_iEn, ↓ev_item, ↓ev_Lc, ↓ev_Yes, ↓ev_Par3, ↓ev_As2, ↓ev_As4, ↓ev_CV, ↓ev_Fld, ↓ev_Mk, ↓ev_Mk0, ↓ev_Mt, ↓ev_ForM, ↓ev_bodyM, ↓ev_gTmT, ↓ev_gTmR, ↓ev_AsgM, ↓ev_Star, ↓ev_Dc, ↓ev_iRv, kForM_e, kAsgM_e, kSt1_e, kSt2_e, kSt3_e, seqT, seqRf, popRf, insRf, inE, notInE, kDc_e, kRv_e, revT, revL, vOf_e, kO_e, kO2_e, kU_e, kCons_e, kCons2_e, kL_e, kIf_t, kIf_f, kB_e, kTr_e, kTr2_e, kAn_t, kAn_f, kOr_t, kOr_f, kNo_e, kNotB_e, kAnB_t, kAnB_f, kOrB_t, kOrB_f, kTup_e, kLst_e, kCP_e, kD_e, kML_e, kML2_e, kS1_e, kS2_e, kS3_e, kI_e, kCh1_e, kCh2_e, kCh3_t, kCh3_f, kAsg_e, kNx_e, kRet_e, kDrop_e, kSif_t, kSif_f, kSub1_e, kSub2_e, kSub3_e, kNxM_e, kFor_e, kBody_e, kIE_e, kSrc_e, kR1_e, kR2_e, kR2b_e, kZ1_e, kZ2_e, kEn_e, kMap_e, kMap2_e, kIt1_e, kIt2_t, kIt2_f, kSome_e, kLc_e, kLc2_e, kGc_e, par3_e, kAs2_e, kAs3_e, kAs4_e, kAs5_e, kAs6_e, fnOf2_e, fnV_e, kCV_e, kFld1_e, kFld2_e, kMk_e, kMk2_e, kMt_e, kMt2_e, kMt3_e, gFldE, setFE, metE, insAt_zero, insAt_succ, ob_s, ob_n, then_nx, then_rt, then_bk, then_ct, par2_e, turn_nx, turn_ct, turn_bk, turn_rt, runT_nil, runT_cons, mapT_nil, mapT_cons, finP_nx, finM_rt, finM_nx, addE, subE, negE, cmpE, ixT, truI, truB, at0, at1, at2, at3, List.getElem?_cons_zero, List.getElem?_cons_succ, List.set_cons_zero, List.set_cons_succ, List.length_cons, List.length_nil, Nat.reduceAdd, Nat.reduceLeDiff, if_true, if_false, reduceIte, reduceCtorEq, id_eq, Bool.not_true, Bool.not_false, Bool.false_eq_true, and_self, Int.reduceLE, Int.reduceLT, Int.reduceNeg, decide_true, decide_false, Option.toList_some, Option.toList_none, List.cons_append, List.nil_append, ixRf, tupRf, lenRf, listRf, isLstRf, appRf, revRf, setRf, itemsRf, itemsT, itemsL, zipT, zipRf, allRf, anyRf, sumRf, tupT, slRf, isiE, t2E, lenT, lstAt_zero, lstAt_succ, Option.isSome_some, Nat.reduceLT, Bool.or_true, Bool.or_false, Bool.true_or, Bool.false_or, gIsN, gNotN, D.isNon, wipeD, z, e', eT1, eI1, fv2, cm, sgn_ge, decide_eq_false (not_not_intro h), if_pos h]
        · simp only [↓momN, ↓momY, ↓ev_V, ↓ev_C, ↓ev_O, ↓ev_U, ↓ev_Nil, ↓ev_Cons, ↓ev_L, ↓ev_If, ↓ev_tV, ↓ev_tTr, ↓ev_tAn, ↓ev_tOr, ↓ev_tNo, ↓ev_NotB, ↓ev_AnB, ↓ev_OrB, ↓ev_Tup, ↓ev_Lst, ↓ev_CP, ↓ev_ML, ↓ev_Sli, ↓ev_oN, ↓ev_oS, ↓ev_Ch, ↓ev_gN, ↓ev_gsNil, ↓ev_gsCons, ↓ev_gT, ↓ev_Seq, ↓ev_Asg, ↓ev_Par, ↓ev_Ret, ↓ev_Drop, ↓ev_sIf, ↓ev_Next, ↓ev_Brk, ↓ev_Cont, ↓ev_RetN, ↓ev_Sub, ↓ev_For, ↓ev_body, ↓ev_iE, ↓ev_iR1, ↓ev_iR2, ↓ev_iZ, ↓ev_iEn, ↓ev_item, ↓ev_Lc, ↓ev_Yes, ↓ev_Par3, ↓ev_As2, ↓ev_As4, ↓ev_CV, ↓ev_Fld, ↓ev_Mk, ↓ev_Mk0, ↓ev_Mt, ↓ev_ForM, ↓ev_bodyM, ↓ev_gTmT, ↓ev_gTmR, ↓ev_AsgM, ↓ev_Star, ↓ev_Dc, ↓ev_iRv, kForM_e, kAsgM_e, kSt1_e, kSt2_e, kSt3_e, seqT, seqRf, popRf, insRf, inE, notInE, kDc_e, kRv_e, revT, revL, vOf_e, kO_e, kO2_e, kU_e, kCons_e, kCons2_e, kL_e, kIf_t, kIf_f, kB_e, kTr_e, kTr2_e, kAn_t, kAn_f, kOr_t, kOr_f, kNo_e, kNotB_e, kAnB_t, kAnB_f, kOrB_t, kOrB_f, kTup_e, kLst_e, kCP_e, kD_e, kML_e, kML2_e, kS1_e, kS2_e, kS3_e, kI_e, kCh1_e, kCh2_e, kCh3_t, kCh3_f, kAsg_e, kNx_e, kRet_e, kDrop_e, kSif_t, kSif_f, kSub1_e, kSub2_e, kSub3_e, kNxM_e, kFor_e, kBody_e, kIE_e, kSrc_e, kR1_e, kR2_e, kR2b_e, kZ1_e, kZ2_e, kEn_e, kMap_e, kMap2_e, kIt1_e, kIt2_t, kIt2_f, kSome_e, kLc_e, kLc2_e, kGc_e, par3_e, kAs2_e, kAs3_e, kAs4_e, kAs5_e, kAs6_e, fnOf2_e, fnV_e, kCV_e, kFld1_e, kFld2_e, kMk_e, kMk2_e, kMt_e, kMt2_e, kMt3_e, gFldE, setFE, metE, insAt_zero, insAt_succ, ob_s, ob_n, then_nx, then_rt, then_bk, then_ct, par2_e, turn_nx, turn_ct, turn_bk, turn_rt, runT_nil, runT_cons, mapT_nil, mapT_cons, finP_nx, finM_rt, finM_nx, addE, subE, negE, cmpE, ixT, truI, truB, at0, at1, at2, at3, List.getElem?_cons_zero, List.getElem?_cons_succ, List.set_cons_zero, List.set_cons_succ, List.length_cons, List.length_nil, Nat.reduceAdd, Nat.reduceLeDiff, if_true, if_false, reduceIte, reduceCtorEq, id_eq, Bool.not_true, Bool.not_false, Bool.false_eq_true, and_self, Int.reduceLE, Int.reduceLT, Int.reduceNeg, decide_true, decide_false, Option.toList_some, Option.toList_none, List.cons_append, List.nil_append, ixRf, tupRf, lenRf, listRf, isLstRf, appRf, revRf, setRf, itemsRf, itemsT, itemsL, zipT, zipRf, allRf, anyRf, sumRf, tupT, slRf, isiE, t2E, lenT, lstAt_zero, lstAt_succ, Option.isSome_some, Nat.reduceLT, Bool.or_true, Bool.or_false, Bool.true_or, Bool.false_or, gIsN, gNotN, D.isNon, wipeD, z, e', eT1, eI1, fv2, cm, sgn_ge, decide_eq_true h, if_neg h]
end

/-! ### a box along a ray -/
def T3.cols (t : T3) : T3 := ⟨⟨t.a.x, t.b.x, t.c.x⟩, ⟨t.a.y, t.b.y, t.c.y⟩, ⟨t.a.z, t.b.z, t.c.z⟩⟩
theorem T3.B.cols {n : Nat} {t : T3} (h : t.B n) : t.cols.B n := ⟨⟨h.1.1, h.2.1.1, h.2.2.1⟩, ⟨h.1.2.1, h.2.1.2.1, h.2.2.2.1⟩, ⟨h.1.2.2, h.2.1.2.2, h.2.2.2.2⟩⟩
theorem columns_e (t : T3) : m_columns_of [eT t] = some (eT t.cols) := by
  rw [e_columns_of _ rfl]
  unfold b_columns_of
  simp only [↓ev_V, ↓ev_C, ↓ev_O, ↓ev_U, ↓ev_Nil, ↓ev_Cons, ↓ev_L, ↓ev_If, ↓ev_tV, ↓ev_tTr, ↓ev_tAn, ↓ev_tOr, ↓ev_tNo, ↓ev_NotB, ↓ev_AnB, ↓ev_OrB, ↓ev_Tup, ↓ev_Lst, ↓ev_CP, ↓ev_ML, ↓ev_Sli, ↓ev_oN, ↓ev_oS, ↓ev_Ch, ↓ev_gN, ↓ev_gsNil, ↓ev_gsCons, ↓ev_gT, ↓ev_Seq, ↓ev_Asg, ↓ev_Par, ↓ev_Ret, ↓ev_Drop, ↓ev_sIf, ↓ev_Next, ↓ev_Brk, ↓ev_Cont, ↓ev_RetN, ↓ev_Sub, ↓ev_For, ↓ev_body, ↓ev_iE, ↓ev_iR1, ↓ev_iR2, ↓ev_iZ, ↓ev_iEn, ↓ev_item, ↓ev_Lc, ↓ev_Yes, ↓ev_Par3, ↓ev_As2, ↓ev_As4, ↓ev_CV, ↓ev_Fld, ↓ev_Mk, ↓ev_Mk0, ↓ev_Mt, ↓ev_ForM, ↓ev_bodyM, ↓ev_gTmT, ↓ev_gTmR, ↓ev_AsgM, ↓ev_Star, ↓ev_Dc, ↓ev_iRv, kForM_e, kAsgM_e, kSt1_e, kSt2_e, kSt3_e, seqT, seqRf, popRf, insRf, inE, notInE, kDc_e, kRv_e, revT, revL, vOf_e, kO_e, kO2_e, kU_e, kCons_e, kCons2_e, kL_e, kIf_t, kIf_f, kB_e, kTr_e, kTr2_e, kAn_t, kAn_f, kOr_t, kOr_f, kNo_e, kNotB_e, kAnB_t, kAnB_f, kOrB_t, kOrB_f, kTup_e, kLst_e, kCP_e, kD_e, kML_e, kML2_e, kS1_e, kS2_e, kS3_e, kI_e, kCh1_e, kCh2_e, kCh3_t, kCh3_f, kAsg_e, kNx_e, kRet_e, kDrop_e, kSif_t, kSif_f, kSub1_e, kSub2_e, kSub3_e, kNxM_e, kFor_e, kBody_e, kIE_e, kSrc_e, kR1_e, kR2_e, kR2b_e, kZ1_e, kZ2_e, kEn_e, kMap_e, kMap2_e, kIt1_e, kIt2_t, kIt2_f, kSome_e, kLc_e, kLc2_e, kGc_e, par3_e, kAs2_e, kAs3_e, kAs4_e, kAs5_e, kAs6_e, fnOf2_e, fnV_e, kCV_e, kFld1_e, kFld2_e, kMk_e, kMk2_e, kMt_e, kMt2_e, kMt3_e, gFldE, setFE, metE, insAt_zero, insAt_succ, ob_s, ob_n, then_nx, then_rt, then_bk, then_ct, par2_e, turn_nx, turn_ct, turn_bk, turn_rt, runT_nil, runT_cons, mapT_nil, mapT_cons, finP_nx, finM_rt, finM_nx, addE, subE, negE, cmpE, ixT, truI, truB, at0, at1, at2, at3, List.getElem?_cons_zero, List.getElem?_cons_succ, List.set_cons_zero, List.set_cons_succ, List.length_cons, List.length_nil, Nat.reduceAdd, Nat.reduceLeDiff, if_true, if_false, reduceIte, reduceCtorEq, id_eq, Bool.not_true, Bool.not_false, Bool.false_eq_true, and_self, Int.reduceLE, Int.reduceLT, Int.reduceNeg, decide_true, decide_false, Option.toList_some, Option.toList_none, List.cons_append, List.nil_append, ixRf, tupRf, lenRf, listRf, isLstRf, appRf, revRf, setRf, itemsRf, itemsT, itemsL, zipT, zipRf, allRf, anyRf, sumRf, tupT, slRf, isiE, t2E, lenT, lstAt_zero, lstAt_succ, Option.isSome_some, Nat.reduceLT, Bool.or_true, Bool.or_false, Bool.true_or, Bool.false_or, gIsN, gNotN, D.isNon, wipeD, ix_eT0, ix_eT1, ix_eT2, ix_eP0, ix_eP1, ix_eP2]
  exact finP_rt _ _ rfl
def eBox (lo hi : P3) : D := .tup [.str "box", eP lo, eP hi]
def eLeafN (n : Str) (form : D) (t : T3) (s : P3) : D := .tup [.str n, form, eT t, eP s]
theorem eq_xb (M : Mem) : gEq (.str "box") (.str "ball") M = some (.bl false, M) := by
  rw [show gEq = gEqB false from rfl, eqS (by decide +kernel) (by decide +kernel)]
  rfl
theorem eq_xh (M : Mem) : gEq (.str "box") (.str "half") M = some (.bl false, M) := by
  rw [show gEq = gEqB false from rfl, eqS (by decide +kernel) (by decide +kernel)]
  rfl
theorem enT (t : T3) (M : Mem) : enOf (eT t) M = some ([.tup [.int 0, eP t.a], .tup [.int 1, eP t.b], .tup [.int 2, eP t.c]], fun _ => True) := rfl
def eSlab (f : P3) (lo hi : Rat) (i : Int) : D := .tup [eP f, eF lo, eF hi, .int (2 * i), .int (2 * i + 1)]
theorem slabs_box {n1 n4 n5 : Nat} {nm : Str} {lo hi s : P3} {t : T3} (ht : t.B n1) (hs : s.B n5) (hlo : lo.B n4) (hhi : hi.B n4) (k1 : n1 ≤ 160) (k4 : n4 ≤ 120) (k5 : n5 ≤ 100) :
    m_slabs_of [eLeafN nm (eBox lo hi) t s] [] = some (.rf 0, [.lst [eSlab t.cols.a (lo.x + t.cols.a.dot s) (hi.x + t.cols.a.dot s) 0, eSlab t.cols.b (lo.y + t.cols.b.dot s) (hi.y + t.cols.b.dot s) 1, eSlab t.cols.c (lo.z + t.cols.c.dot s) (hi.z + t.cols.c.dot s) 2]]) := by
  have hc := ht.cols
  have d1 := dot_e hc.1 hs (by omega)
  have d2 := dot_e hc.2.1 hs (by omega)
  have d3 := dot_e hc.2.2 hs (by omega)
  have r1 := Rb.dot hc.1 hs
  have r2 := Rb.dot hc.2.1 hs
  have r3 := Rb.dot hc.2.2 hs
  have p1 := plus_e hlo.1 r1 (by omega)
  have p2 := plus_e hhi.1 r1 (by omega)
  have p3 := plus_e hlo.2.1 r2 (by omega)
  have p4 := plus_e hhi.2.1 r2 (by omega)
  have p5 := plus_e hlo.2.2 r3 (by omega)
  have p6 := plus_e hhi.2.2 r3 (by omega)
  have i1 : ∀ M, gIx (eLeafN nm (eBox lo hi) t s) (.int 1) M = some (eBox lo hi, M) := fun _ => rfl
  have i2 : ∀ M, gIx (eLeafN nm (eBox lo hi) t s) (.int 2) M = some (eT t, M) := fun _ => rfl
  have i3 : ∀ M, gIx (eLeafN nm (eBox lo hi) t s) (.int 3) M = some (eP s, M) := fun _ => rfl
  have j0 : ∀ M, gIx (eBox lo hi) (.int 0) M = some (.str "box", M) := fun _ => rfl
  have j1 : ∀ M, gIx (eBox lo hi) (.int 1) M = some (eP lo, M) := fun _ => rfl
  have j2 : ∀ M, gIx (eBox lo hi) (.int 2) M = some (eP hi, M) := fun _ => rfl
  have z0 : ∀ (ds : List D) (C : Mem), lstAt (.lst ds :: C) 0 = some ds := fun _ _ => rfl
  have m0 := mulE (mul_small (i := 2) (j := 0) (by decide) (by decide) (by decide) (by decide))
  have m1 := mulE (mul_small (i := 2) (j := 1) (by decide) (by decide) (by decide) (by decide))
  have m2 := mulE (mul_small (i := 2) (j := 2) (by decide) (by decide) (by decide) (by decide))
  rw [e_slabs_of]
  unfold b_slabs_of eSlab
  simp only [↓ev_V, ↓ev_C, ↓ev_O, ↓ev_U, ↓ev_Nil, ↓ev_Cons, ↓ev_L, ↓ev_If, ↓ev_tV, ↓ev_tTr, ↓ev_tAn, ↓ev_tOr, ↓ev_tNo, ↓ev_NotB, ↓ev_AnB, ↓ev_OrB, ↓ev_Tup, ↓ev_Lst, ↓ev_CP, ↓ev_ML, ↓ev_Sli, ↓ev_oN, ↓ev_oS, ↓ev_Ch, ↓ev_gN, ↓ev_gsNil, ↓ev_gsCons, ↓ev_gT, ↓ev_Seq, ↓ev_Asg, ↓ev_Par, ↓ev_Ret, ↓ev_Drop, ↓ev_sIf, ↓ev_Next, ↓ev_Brk, ↓ev_Cont, ↓ev_RetN, ↓ev_Sub, ↓ev_For, ↓ev_body, ↓ev_iE, ↓ev_iR1, ↓ev_iR2, ↓ev_iZ, ↓ev_iEn, ↓ev_item, ↓ev_Lc, ↓ev_Yes, ↓ev_Par3, ↓ev_As2, ↓ev_As4, ↓ev_CV, ↓ev_Fld, ↓ev_Mk, ↓ev_Mk0, ↓ev_Mt, ↓ev_ForM, ↓ev_bodyM, ↓ev_gTmT, ↓ev_gTmR, ↓ev_AsgM, ↓ev_Star, ↓ev_Dc, ↓ev_iRv, kForM_e, kAsgM_e, kSt1_e, kSt2_e, kSt3_e, seqT, seqRf, popRf, insRf, inE, notInE, kDc_e, kRv_e, revT, revL, vOf_e, kO_e, kO2_e, kU_e, kCons_e, kCons2_e, kL_e, kIf_t, kIf_f, kB_e, kTr_e, kTr2_e, kAn_t, kAn_f, kOr_t, kOr_f, kNo_e, kNotB_e, kAnB_t, kAnB_f, kOrB_t, kOrB_f, kTup_e, kLst_e, kCP_e, kD_e, kML_e, kML2_e, kS1_e, kS2_e, kS3_e, kI_e, kCh1_e, kCh2_e, kCh3_t, kCh3_f, kAsg_e, kNx_e, kRet_e, kDrop_e, kSif_t, kSif_f, kSub1_e, kSub2_e, kSub3_e, kNxM_e, kFor_e, kBody_e, kIE_e, kSrc_e, kR1_e, kR2_e, kR2b_e, kZ1_e, kZ2_e, kEn_e, kMap_e, kMap2_e, kIt1_e, kIt2_t, kIt2_f, kSome_e, kLc_e, kLc2_e, kGc_e, par3_e, kAs2_e, kAs3_e, kAs4_e, kAs5_e, kAs6_e, fnOf2_e, fnV_e, kCV_e, kFld1_e, kFld2_e, kMk_e, kMk2_e, kMt_e, kMt2_e, kMt3_e, gFldE, setFE, metE, insAt_zero, insAt_succ, ob_s, ob_n, then_nx, then_rt, then_bk, then_ct, par2_e, turn_nx, turn_ct, turn_bk, turn_rt, runT_nil, runT_cons, mapT_nil, mapT_cons, finP_nx, finM_rt, finM_nx, addE, subE, negE, cmpE, ixT, truI, truB, at0, at1, at2, at3, List.getElem?_cons_zero, List.getElem?_cons_succ, List.set_cons_zero, List.set_cons_succ, List.length_cons, List.length_nil, Nat.reduceAdd, Nat.reduceLeDiff, if_true, if_false, reduceIte, reduceCtorEq, id_eq, Bool.not_true, Bool.not_false, Bool.false_eq_true, and_self, Int.reduceLE, Int.reduceLT, Int.reduceNeg, decide_true, decide_false, Option.toList_some, Option.toList_none, List.cons_append, List.nil_append, ixRf, tupRf, lenRf, listRf, isLstRf, appRf, revRf, setRf, itemsRf, itemsT, itemsL, zipT, zipRf, allRf, anyRf, sumRf, tupT, slRf, isiE, t2E, lenT, lstAt_zero, lstAt_succ, Option.isSome_some, Nat.reduceLT, Bool.or_true, Bool.or_false, Bool.true_or, Bool.false_or, gIsN, gNotN, D.isNon, wipeD, i1, i2, i3, j0, j1, j2, eq_xh, columns_e, enT, d1, d2, d3, ix_eP0, ix_eP1, ix_eP2, p1, p2, p3, p4, p5, p6, m0, m1, m2, z0, show (0 : Nat) < 100000 by decide, show (1 : Nat) < 100000 by decide, show (2 : Nat) < 100000 by decide, List.nil_append, List.cons_append]
theorem span_B {m n k : Nat} {s a b : Rat} {i j : Int} (hs : Rb m s) (ha : Rb n a) (hb : Rb n b) (hk : n + m ≤ k) : (spanOf s a b i j).B k := by
  unfold spanOf
  by_cases h : s = 0
  · rw [if_pos h]
    split <;> trivial
  · rw [if_neg h]
    have q1 := (ha.div hs h).mono hk
    have q2 := (hb.div hs h).mono hk
    split
    · exact ⟨q1, q2⟩
    · exact ⟨q2, q1⟩
theorem metD_lo (l : List Spn) : D.lo 0 (metD l) = true := by
  unfold metD
  split
  · rfl
  · split <;> rfl
  · rename_i b e _ _
    cases b <;> cases e <;> rfl
/-- a slab's span, by the three numbers of it -/
def boxD (c s lo hi p w : P3) (t : T3) : D := metD [spanOf (t.a.dot w) (lo.x + t.a.dot s - t.a.dot p) (hi.x + t.a.dot s - t.a.dot p) (2 * 0) (2 * 0 + 1), spanOf (t.b.dot w) (lo.y + t.b.dot s - t.b.dot p) (hi.y + t.b.dot s - t.b.dot p) (2 * 1) (2 * 1 + 1), spanOf (t.c.dot w) (lo.z + t.c.dot s - t.c.dot p) (hi.z + t.c.dot s - t.c.dot p) (2 * 2) (2 * 2 + 1)]
theorem box_e {n1 n2 n3 n4 n5 : Nat} {nm : Str} {lo hi s p w : P3} {t : T3} (ht : t.B n1) (hp : p.B n2) (hw : w.B n3) (hlo : lo.B n4) (hhi : hi.B n4) (hs : s.B n5) (k1 : n1 ≤ 160) (k2 : n2 ≤ 400) (k3 : n3 ≤ 400) (k4 : n4 ≤ 120) (k5 : n5 ≤ 100) :
    m_leaf_stretch [eLeafN nm (eBox lo hi) t s, .tup [eP p, eP w]] = some (boxD no3 s lo hi p w t.cols) := by
  have sl := slabs_box (nm := nm) ht hs hlo hhi k1 k4 k5
  have hc := ht.cols
  have r1 := Rb.dot hc.1 hs
  have r2 := Rb.dot hc.2.1 hs
  have r3 := Rb.dot hc.2.2 hs
  have s1 := slab_box (i := 2 * 0) (j := 2 * 0 + 1) hc.1 hp hw (hlo.1.add r1) (hhi.1.add r1) (by omega) k2 k3 (by omega)
  have s2 := slab_box (i := 2 * 1) (j := 2 * 1 + 1) hc.2.1 hp hw (hlo.2.1.add r2) (hhi.2.1.add r2) (by omega) k2 k3 (by omega)
  have s3 := slab_box (i := 2 * 2) (j := 2 * 2 + 1) hc.2.2 hp hw (hlo.2.2.add r3) (hhi.2.2.add r3) (by omega) k2 k3 (by omega)
  have v1 := span_B (i := 2 * 0) (j := 2 * 0 + 1) (k := 4500) (Rb.dot hc.1 hw) ((hlo.1.add r1).sub (Rb.dot hc.1 hp)) ((hhi.1.add r1).sub (Rb.dot hc.1 hp)) (by omega)
  have v2 := span_B (i := 2 * 1) (j := 2 * 1 + 1) (k := 4500) (Rb.dot hc.2.1 hw) ((hlo.2.1.add r2).sub (Rb.dot hc.2.1 hp)) ((hhi.2.1.add r2).sub (Rb.dot hc.2.1 hp)) (by omega)
  have v3 := span_B (i := 2 * 2) (j := 2 * 2 + 1) (k := 4500) (Rb.dot hc.2.2 hw) ((hlo.2.2.add r3).sub (Rb.dot hc.2.2 hp)) ((hhi.2.2.add r3).sub (Rb.dot hc.2.2 hp)) (by omega)
  have i1 : ∀ M, gIx (eLeafN nm (eBox lo hi) t s) (.int 1) M = some (eBox lo hi, M) := fun _ => rfl
  have j0 : ∀ M, gIx (eBox lo hi) (.int 0) M = some (.str "box", M) := fun _ => rfl
  unfold boxD
  generalize spanOf (t.cols.a.dot w) _ _ _ _ = S1 at *
  generalize spanOf (t.cols.b.dot w) _ _ _ _ = S2 at *
  generalize spanOf (t.cols.c.dot w) _ _ _ _ = S3 at *
  unfold eSlab at sl
  generalize hA : D.tup [eP t.cols.a, eF (lo.x + t.cols.a.dot s), eF (hi.x + t.cols.a.dot s), .int (2 * 0), .int (2 * 0 + 1)] = A at *
  generalize hB : D.tup [eP t.cols.b, eF (lo.y + t.cols.b.dot s), eF (hi.y + t.cols.b.dot s), .int (2 * 1), .int (2 * 1 + 1)] = B at *
  generalize hC : D.tup [eP t.cols.c, eF (lo.z + t.cols.c.dot s), eF (hi.z + t.cols.c.dot s), .int (2 * 2), .int (2 * 2 + 1)] = C at *
  have g : ([.lst [A, B, C]] : Mem)[0]? = some (.lst [A, B, C]) := rfl
  have hm := met_e (r := 1) (M := [.lst [A, B, C], .lst [eSp S1, eSp S2, eSp S3]]) (l := [S1, S2, S3]) rfl (n := 4500) (by decide) (fun x hx => by
    simp only [List.mem_cons, List.not_mem_nil, or_false] at hx
    rcases hx with rfl | rfl | rfl
    · exact v1
    · exact v2
    · exact v3)
  rw [e_leaf_stretch _ _ rfl]
  unfold b_leaf_stretch
  simp only [↓ev_V, ↓ev_C, ↓ev_O, ↓ev_U, ↓ev_Nil, ↓ev_Cons, ↓ev_L, ↓ev_If, ↓ev_tV, ↓ev_tTr, ↓ev_tAn, ↓ev_tOr, ↓ev_tNo, ↓ev_NotB, ↓ev_AnB, ↓ev_OrB, ↓ev_Tup, ↓ev_Lst, ↓ev_CP, ↓ev_ML, ↓ev_Sli, ↓ev_oN, ↓ev_oS, ↓ev_Ch, ↓ev_gN, ↓ev_gsNil, ↓ev_gsCons, ↓ev_gT, ↓ev_Seq, ↓ev_Asg, ↓ev_Par, ↓ev_Ret, ↓ev_Drop, ↓ev_sIf, ↓ev_Next, ↓ev_Brk, ↓ev_Cont, ↓ev_RetN, ↓ev_Sub, ↓ev_For, ↓ev_body, ↓ev_iE, ↓ev_iR1, ↓ev_iR2, ↓ev_iZ, ↓ev_iEn, ↓ev_item, ↓ev_Lc, ↓ev_Yes, ↓ev_Par3, ↓ev_As2, ↓ev_As4, ↓ev_CV, ↓ev_Fld, ↓ev_Mk, ↓ev_Mk0, ↓ev_Mt, ↓ev_ForM, ↓ev_bodyM, ↓ev_gTmT, ↓ev_gTmR, ↓ev_AsgM, ↓ev_Star, ↓ev_Dc, ↓ev_iRv, kForM_e, kAsgM_e, kSt1_e, kSt2_e, kSt3_e, seqT, seqRf, popRf, insRf, inE, notInE, kDc_e, kRv_e, revT, revL, vOf_e, kO_e, kO2_e, kU_e, kCons_e, kCons2_e, kL_e, kIf_t, kIf_f, kB_e, kTr_e, kTr2_e, kAn_t, kAn_f, kOr_t, kOr_f, kNo_e, kNotB_e, kAnB_t, kAnB_f, kOrB_t, kOrB_f, kTup_e, kLst_e, kCP_e, kD_e, kML_e, kML2_e, kS1_e, kS2_e, kS3_e, kI_e, kCh1_e, kCh2_e, kCh3_t, kCh3_f, kAsg_e, kNx_e, kRet_e, kDrop_e, kSif_t, kSif_f, kSub1_e, kSub2_e, kSub3_e, kNxM_e, kFor_e, kBody_e, kIE_e, kSrc_e, kR1_e, kR2_e, kR2b_e, kZ1_e, kZ2_e, kEn_e, kMap_e, kMap2_e, kIt1_e, kIt2_t, kIt2_f, kSome_e, kLc_e, kLc2_e, kGc_e, par3_e, kAs2_e, kAs3_e, kAs4_e, kAs5_e, kAs6_e, fnOf2_e, fnV_e, kCV_e, kFld1_e, kFld2_e, kMk_e, kMk2_e, kMt_e, kMt2_e, kMt3_e, gFldE, setFE, metE, insAt_zero, insAt_succ, ob_s, ob_n, then_nx, then_rt, then_bk, then_ct, par2_e, turn_nx, turn_ct, turn_bk, turn_rt, runT_nil, runT_cons, mapT_nil, mapT_cons, finP_nx, finM_rt, finM_nx, addE, subE, negE, cmpE, ixT, truI, truB, at0, at1, at2, at3, List.getElem?_cons_zero, List.getElem?_cons_succ, List.set_cons_zero, List.set_cons_succ, List.length_cons, List.length_nil, Nat.reduceAdd, Nat.reduceLeDiff, if_true, if_false, reduceIte, reduceCtorEq, id_eq, Bool.not_true, Bool.not_false, Bool.false_eq_true, and_self, Int.reduceLE, Int.reduceLT, Int.reduceNeg, decide_true, decide_false, Option.toList_some, Option.toList_none, List.cons_append, List.nil_append, ixRf, tupRf, lenRf, listRf, isLstRf, appRf, revRf, setRf, itemsRf, itemsT, itemsL, zipT, zipRf, allRf, anyRf, sumRf, tupT, slRf, isiE, t2E, lenT, lstAt_zero, lstAt_succ, Option.isSome_some, Nat.reduceLT, Bool.or_true, Bool.or_false, Bool.true_or, Bool.false_or, gIsN, gNotN, D.isNon, wipeD, i1, j0, eq_xb, sl, mapL_cons g, mapL_nil g, s1, s2, s3, hm]
  exact finP_rt _ _ (metD_lo _)

/-! ### a ball along a ray -/
theorem add_no3 (p : P3) : p.add no3 = p := by
  obtain ⟨x, y, z⟩ := p
  simp only [P3.add, no3, Rat.add_zero]
def eBall (m : P3) (r : Rat) : D := .tup [.str "ball", eP m, eF r]
def eLeafC (form : D) (t : T3) (s : P3) : D := .tup [.str "c", form, eT t, eP s]
theorem eq_bb (M : Mem) : gEq (.str "ball") (.str "ball") M = some (.bl true, M) := by
  rw [show gEq = gEqB false from rfl, eqS (by decide +kernel) (by decide +kernel)]
  rfl
theorem ball_of_e {m : P3} {r : Rat} (hm : m.B 200) : m_ball_of [eLeafC (eBall m r) id3 no3] = some (.tup [eP m, eF r]) := by
  have t := turned_e id3_B hm (by decide)
  rw [id3_app] at t
  have s := together_e hm no3_B (by decide)
  rw [add_no3] at s
  have i1 : ∀ M, gIx (eLeafC (eBall m r) id3 no3) (.int 1) M = some (eBall m r, M) := fun _ => rfl
  have i2 : ∀ M, gIx (eLeafC (eBall m r) id3 no3) (.int 2) M = some (eT id3, M) := fun _ => rfl
  have i3 : ∀ M, gIx (eLeafC (eBall m r) id3 no3) (.int 3) M = some (eP no3, M) := fun _ => rfl
  have j1 : ∀ M, gIx (eBall m r) (.int 1) M = some (eP m, M) := fun _ => rfl
  have j2 : ∀ M, gIx (eBall m r) (.int 2) M = some (eF r, M) := fun _ => rfl
  rw [e_ball_of _ rfl]
  unfold b_ball_of
  simp only [↓ev_V, ↓ev_C, ↓ev_O, ↓ev_U, ↓ev_Nil, ↓ev_Cons, ↓ev_L, ↓ev_If, ↓ev_tV, ↓ev_tTr, ↓ev_tAn, ↓ev_tOr, ↓ev_tNo, ↓ev_NotB, ↓ev_AnB, ↓ev_OrB, ↓ev_Tup, ↓ev_Lst, ↓ev_CP, ↓ev_ML, ↓ev_Sli, ↓ev_oN, ↓ev_oS, ↓ev_Ch, ↓ev_gN, ↓ev_gsNil, ↓ev_gsCons, ↓ev_gT, ↓ev_Seq, ↓ev_Asg, ↓ev_Par, ↓ev_Ret, ↓ev_Drop, ↓ev_sIf, ↓ev_Next, ↓ev_Brk, ↓ev_Cont, ↓ev_RetN, ↓ev_Sub, ↓ev_For, ↓ev_body, ↓ev_iE, ↓ev_iR1, ↓ev_iR2, ↓ev_iZ, ↓ev_iEn, ↓ev_item, ↓ev_Lc, ↓ev_Yes, ↓ev_Par3, ↓ev_As2, ↓ev_As4, ↓ev_CV, ↓ev_Fld, ↓ev_Mk, ↓ev_Mk0, ↓ev_Mt, ↓ev_ForM, ↓ev_bodyM, ↓ev_gTmT, ↓ev_gTmR, ↓ev_AsgM, ↓ev_Star, ↓ev_Dc, ↓ev_iRv, kForM_e, kAsgM_e, kSt1_e, kSt2_e, kSt3_e, seqT, seqRf, popRf, insRf, inE, notInE, kDc_e, kRv_e, revT, revL, vOf_e, kO_e, kO2_e, kU_e, kCons_e, kCons2_e, kL_e, kIf_t, kIf_f, kB_e, kTr_e, kTr2_e, kAn_t, kAn_f, kOr_t, kOr_f, kNo_e, kNotB_e, kAnB_t, kAnB_f, kOrB_t, kOrB_f, kTup_e, kLst_e, kCP_e, kD_e, kML_e, kML2_e, kS1_e, kS2_e, kS3_e, kI_e, kCh1_e, kCh2_e, kCh3_t, kCh3_f, kAsg_e, kNx_e, kRet_e, kDrop_e, kSif_t, kSif_f, kSub1_e, kSub2_e, kSub3_e, kNxM_e, kFor_e, kBody_e, kIE_e, kSrc_e, kR1_e, kR2_e, kR2b_e, kZ1_e, kZ2_e, kEn_e, kMap_e, kMap2_e, kIt1_e, kIt2_t, kIt2_f, kSome_e, kLc_e, kLc2_e, kGc_e, par3_e, kAs2_e, kAs3_e, kAs4_e, kAs5_e, kAs6_e, fnOf2_e, fnV_e, kCV_e, kFld1_e, kFld2_e, kMk_e, kMk2_e, kMt_e, kMt2_e, kMt3_e, gFldE, setFE, metE, insAt_zero, insAt_succ, ob_s, ob_n, then_nx, then_rt, then_bk, then_ct, par2_e, turn_nx, turn_ct, turn_bk, turn_rt, runT_nil, runT_cons, mapT_nil, mapT_cons, finP_nx, finM_rt, finM_nx, addE, subE, negE, cmpE, ixT, truI, truB, at0, at1, at2, at3, List.getElem?_cons_zero, List.getElem?_cons_succ, List.set_cons_zero, List.set_cons_succ, List.length_cons, List.length_nil, Nat.reduceAdd, Nat.reduceLeDiff, if_true, if_false, reduceIte, reduceCtorEq, id_eq, Bool.not_true, Bool.not_false, Bool.false_eq_true, and_self, Int.reduceLE, Int.reduceLT, Int.reduceNeg, decide_true, decide_false, Option.toList_some, Option.toList_none, List.cons_append, List.nil_append, ixRf, tupRf, lenRf, listRf, isLstRf, appRf, revRf, setRf, itemsRf, itemsT, itemsL, zipT, zipRf, allRf, anyRf, sumRf, tupT, slRf, isiE, t2E, lenT, lstAt_zero, lstAt_succ, Option.isSome_some, Nat.reduceLT, Bool.or_true, Bool.or_false, Bool.true_or, Bool.false_or, gIsN, gNotN, D.isNon, wipeD, i1, i2, i3, j1, j2, t, s]
  exact finP_rt _ _ rfl
/-- the stretch of a ball, by the three numbers of its square -/
def ballD (a b d : Rat) : D := if 0 < d then .tup [.tup [eF ((0 - b) / a), eF (0 - 1 / a), eF d], .tup [eF ((0 - b) / a), eF (1 / a), eF d], .int 0, .int 0] else .non
def ballN (w v : P3) (r : Rat) : Rat := w.dot v * w.dot v - w.dot w * (v.dot v - r * r)
theorem eFm1 : D.tup [.int (-1), .int 1] = eF (-1) := rfl
theorem eF1 : D.tup [.int 1, .int 1] = eF 1 := rfl
theorem rb_ones : Rb 1 (1 : Rat) ∧ Rb 1 (-1 : Rat) := ⟨⟨by unfold Bt; decide, by unfold Bt; decide⟩, ⟨by unfold Bt; decide, by unfold Bt; decide⟩⟩
theorem ball_e {m p w : P3} {r : Rat} (hm : m.B 105) (hr : Rb 105 r) (hp : p.B 115) (hw : w.B 5) (hz : w.dot w ≠ 0) : m_leaf_stretch [eLeafC (eBall m r) id3 no3, .tup [eP p, eP w]] = some (ballD (w.dot w) (w.dot (p.sub m)) (ballN w (p.sub m) r)) := by
  have o := ball_of_e (r := r) (hm.mono (n := 200) (by decide))
  have wb := way_between_e hm hp (by decide)
  have hv : (p.sub m).B 221 := (hp.sub hm).mono (by decide)
  have t1 := dot_e hw hw (by decide)
  have t2 := dot_e hw hv (by decide)
  have t3 := dot_e hv hv (by decide)
  have r1 := Rb.dot hw hw
  have r2 := Rb.dot hw hv
  have r3 := Rb.dot hv hv
  have t4 := times_e hr hr (by decide)
  have r4 := hr.mul hr
  have t5 := minus_e r3 r4 (by decide)
  have r5 := r3.sub r4
  have t6 := times_e r1 r5 (by decide)
  have r6 := r1.mul r5
  have t7 := times_e r2 r2 (by decide)
  have r7 := r2.mul r2
  have t8 := minus_e r7 r6 (by decide)
  have sg := sign_e (ballN w (p.sub m) r)
  have t9 := minus_e (rb_one (n := 1) (by decide)) r2 (by decide)
  have r9 := (rb_one (n := 1) (by decide)).sub r2
  have v1 := over_e r9 r1 (by decide) hz
  have v2 := over_e rb_ones.1 r1 (by decide) hz
  have v3 := over_e rb_ones.2 r1 (by decide) hz
  have n1 : -1 / w.dot w = 0 - 1 / w.dot w := by
    rw [Rat.div_def, Rat.div_def]
    grind
  rw [n1] at v3
  rw [show w.dot (p.sub m) * w.dot (p.sub m) - w.dot w * ((p.sub m).dot (p.sub m) - r * r) = ballN w (p.sub m) r from rfl] at t8
  have i1 : ∀ M, gIx (eLeafC (eBall m r) id3 no3) (.int 1) M = some (eBall m r, M) := fun _ => rfl
  have j0 : ∀ M, gIx (eBall m r) (.int 0) M = some (.str "ball", M) := fun _ => rfl
  have st : m_ball_stretch [eLeafC (eBall m r) id3 no3, .tup [eP p, eP w]] = some (ballD (w.dot w) (w.dot (p.sub m)) (ballN w (p.sub m) r)) := by
    rw [e_ball_stretch _ _ rfl]
    unfold b_ball_stretch ballD
    generalize ballN w (p.sub m) r = y at *
    by_cases hd : 0 < y
    · have nd : ¬ y < 0 := by grind
      rw [if_neg nd, if_pos hd] at sg
      rw [if_pos hd]
      simp only [↓ev_V, ↓ev_C, ↓ev_O, ↓ev_U, ↓ev_Nil, ↓ev_Cons, ↓ev_L, ↓ev_If, ↓ev_tV, ↓ev_tTr, ↓ev_tAn, ↓ev_tOr, ↓ev_tNo, ↓ev_NotB, ↓ev_AnB, ↓ev_OrB, ↓ev_Tup, ↓ev_Lst, ↓ev_CP, ↓ev_ML, ↓ev_Sli, ↓ev_oN, ↓ev_oS, ↓ev_Ch, ↓ev_gN, ↓ev_gsNil, ↓ev_gsCons, ↓ev_gT, ↓ev_Seq, ↓ev_Asg, ↓ev_Par, ↓ev_Ret, ↓ev_Drop, ↓ev_sIf, ↓ev_Next, ↓ev_Brk, ↓ev_Cont, ↓ev_RetN, ↓ev_Sub, ↓ev_For, ↓ev_body, ↓ev_iE, ↓ev_iR1, ↓ev_iR2, ↓ev_iZ, ↓ev_iEn, ↓ev_item, ↓ev_Lc, ↓ev_Yes, ↓ev_Par3, ↓ev_As2, ↓ev_As4, ↓ev_CV, ↓ev_Fld, ↓ev_Mk, ↓ev_Mk0, ↓ev_Mt, ↓ev_ForM, ↓ev_bodyM, ↓ev_gTmT, ↓ev_gTmR, ↓ev_AsgM, ↓ev_Star, ↓ev_Dc, ↓ev_iRv, kForM_e, kAsgM_e, kSt1_e, kSt2_e, kSt3_e, seqT, seqRf, popRf, insRf, inE, notInE, kDc_e, kRv_e, revT, revL, vOf_e, kO_e, kO2_e, kU_e, kCons_e, kCons2_e, kL_e, kIf_t, kIf_f, kB_e, kTr_e, kTr2_e, kAn_t, kAn_f, kOr_t, kOr_f, kNo_e, kNotB_e, kAnB_t, kAnB_f, kOrB_t, kOrB_f, kTup_e, kLst_e, kCP_e, kD_e, kML_e, kML2_e, kS1_e, kS2_e, kS3_e, kI_e, kCh1_e, kCh2_e, kCh3_t, kCh3_f, kAsg_e, kNx_e, kRet_e, kDrop_e, kSif_t, kSif_f, kSub1_e, kSub2_e, kSub3_e, kNxM_e, kFor_e, kBody_e, kIE_e, kSrc_e, kR1_e, kR2_e, kR2b_e, kZ1_e, kZ2_e, kEn_e, kMap_e, kMap2_e, kIt1_e, kIt2_t, kIt2_f, kSome_e, kLc_e, kLc2_e, kGc_e, par3_e, kAs2_e, kAs3_e, kAs4_e, kAs5_e, kAs6_e, fnOf2_e, fnV_e, kCV_e, kFld1_e, kFld2_e, kMk_e, kMk2_e, kMt_e, kMt2_e, kMt3_e, gFldE, setFE, metE, insAt_zero, insAt_succ, ob_s, ob_n, then_nx, then_rt, then_bk, then_ct, par2_e, turn_nx, turn_ct, turn_bk, turn_rt, runT_nil, runT_cons, mapT_nil, mapT_cons, finP_nx, finM_rt, finM_nx, addE, subE, negE, cmpE, ixT, truI, truB, at0, at1, at2, at3, List.getElem?_cons_zero, List.getElem?_cons_succ, List.set_cons_zero, List.set_cons_succ, List.length_cons, List.length_nil, Nat.reduceAdd, Nat.reduceLeDiff, if_true, if_false, reduceIte, reduceCtorEq, id_eq, Bool.not_true, Bool.not_false, Bool.false_eq_true, and_self, Int.reduceLE, Int.reduceLT, Int.reduceNeg, decide_true, decide_false, Option.toList_some, Option.toList_none, List.cons_append, List.nil_append, ixRf, tupRf, lenRf, listRf, isLstRf, appRf, revRf, setRf, itemsRf, itemsT, itemsL, zipT, zipRf, allRf, anyRf, sumRf, tupT, slRf, isiE, t2E, lenT, lstAt_zero, lstAt_succ, Option.isSome_some, Nat.reduceLT, Bool.or_true, Bool.or_false, Bool.true_or, Bool.false_or, gIsN, gNotN, D.isNon, wipeD, o, wb, t1, t2, t3, t4, t5, t6, t7, t8, sg, show ¬ (1 : Int) ≤ 0 by decide, eF0, eF1, eFm1, t9, v1, v2, v3]
      exact finP_rt _ _ rfl
    · rw [if_neg hd]
      have s3 : ∃ i : Int, m_sign [eF y] = some (.int i) ∧ i ≤ 0 := by
        by_cases n3 : y < 0
        · rw [if_pos n3] at sg
          exact ⟨_, sg, by decide⟩
        · rw [if_neg n3, if_neg hd] at sg
          exact ⟨_, sg, by decide⟩
      obtain ⟨i, s3, hi⟩ := s3
      simp only [↓ev_V, ↓ev_C, ↓ev_O, ↓ev_U, ↓ev_Nil, ↓ev_Cons, ↓ev_L, ↓ev_If, ↓ev_tV, ↓ev_tTr, ↓ev_tAn, ↓ev_tOr, ↓ev_tNo, ↓ev_NotB, ↓ev_AnB, ↓ev_OrB, ↓ev_Tup, ↓ev_Lst, ↓ev_CP, ↓ev_ML, ↓ev_Sli, ↓ev_oN, ↓ev_oS, ↓ev_Ch, ↓ev_gN, ↓ev_gsNil, ↓ev_gsCons, ↓ev_gT, ↓ev_Seq, ↓ev_Asg, ↓ev_Par, ↓ev_Ret, ↓ev_Drop, ↓ev_sIf, ↓ev_Next, ↓ev_Brk, ↓ev_Cont, ↓ev_RetN, ↓ev_Sub, ↓ev_For, ↓ev_body, ↓ev_iE, ↓ev_iR1, ↓ev_iR2, ↓ev_iZ, ↓ev_iEn, ↓ev_item, ↓ev_Lc, ↓ev_Yes, ↓ev_Par3, ↓ev_As2, ↓ev_As4, ↓ev_CV, ↓ev_Fld, ↓ev_Mk, ↓ev_Mk0, ↓ev_Mt, ↓ev_ForM, ↓ev_bodyM, ↓ev_gTmT, ↓ev_gTmR, ↓ev_AsgM, ↓ev_Star, ↓ev_Dc, ↓ev_iRv, kForM_e, kAsgM_e, kSt1_e, kSt2_e, kSt3_e, seqT, seqRf, popRf, insRf, inE, notInE, kDc_e, kRv_e, revT, revL, vOf_e, kO_e, kO2_e, kU_e, kCons_e, kCons2_e, kL_e, kIf_t, kIf_f, kB_e, kTr_e, kTr2_e, kAn_t, kAn_f, kOr_t, kOr_f, kNo_e, kNotB_e, kAnB_t, kAnB_f, kOrB_t, kOrB_f, kTup_e, kLst_e, kCP_e, kD_e, kML_e, kML2_e, kS1_e, kS2_e, kS3_e, kI_e, kCh1_e, kCh2_e, kCh3_t, kCh3_f, kAsg_e, kNx_e, kRet_e, kDrop_e, kSif_t, kSif_f, kSub1_e, kSub2_e, kSub3_e, kNxM_e, kFor_e, kBody_e, kIE_e, kSrc_e, kR1_e, kR2_e, kR2b_e, kZ1_e, kZ2_e, kEn_e, kMap_e, kMap2_e, kIt1_e, kIt2_t, kIt2_f, kSome_e, kLc_e, kLc2_e, kGc_e, par3_e, kAs2_e, kAs3_e, kAs4_e, kAs5_e, kAs6_e, fnOf2_e, fnV_e, kCV_e, kFld1_e, kFld2_e, kMk_e, kMk2_e, kMt_e, kMt2_e, kMt3_e, gFldE, setFE, metE, insAt_zero, insAt_succ, ob_s, ob_n, then_nx, then_rt, then_bk, then_ct, par2_e, turn_nx, turn_ct, turn_bk, turn_rt, runT_nil, runT_cons, mapT_nil, mapT_cons, finP_nx, finM_rt, finM_nx, addE, subE, negE, cmpE, ixT, truI, truB, at0, at1, at2, at3, List.getElem?_cons_zero, List.getElem?_cons_succ, List.set_cons_zero, List.set_cons_succ, List.length_cons, List.length_nil, Nat.reduceAdd, Nat.reduceLeDiff, if_true, if_false, reduceIte, reduceCtorEq, id_eq, Bool.not_true, Bool.not_false, Bool.false_eq_true, and_self, Int.reduceLE, Int.reduceLT, Int.reduceNeg, decide_true, decide_false, Option.toList_some, Option.toList_none, List.cons_append, List.nil_append, ixRf, tupRf, lenRf, listRf, isLstRf, appRf, revRf, setRf, itemsRf, itemsT, itemsL, zipT, zipRf, allRf, anyRf, sumRf, tupT, slRf, isiE, t2E, lenT, lstAt_zero, lstAt_succ, Option.isSome_some, Nat.reduceLT, Bool.or_true, Bool.or_false, Bool.true_or, Bool.false_or, gIsN, gNotN, D.isNon, wipeD, o, wb, t1, t2, t3, t4, t5, t6, t7, t8, s3, hi]
      exact finP_rt _ _ rfl
  have hlo : D.lo 0 (ballD (w.dot w) (w.dot (p.sub m)) (ballN w (p.sub m) r)) = true := by
    unfold ballD
    split <;> rfl
  rw [e_leaf_stretch _ _ rfl]
  unfold b_leaf_stretch
  simp only [↓ev_V, ↓ev_C, ↓ev_O, ↓ev_U, ↓ev_Nil, ↓ev_Cons, ↓ev_L, ↓ev_If, ↓ev_tV, ↓ev_tTr, ↓ev_tAn, ↓ev_tOr, ↓ev_tNo, ↓ev_NotB, ↓ev_AnB, ↓ev_OrB, ↓ev_Tup, ↓ev_Lst, ↓ev_CP, ↓ev_ML, ↓ev_Sli, ↓ev_oN, ↓ev_oS, ↓ev_Ch, ↓ev_gN, ↓ev_gsNil, ↓ev_gsCons, ↓ev_gT, ↓ev_Seq, ↓ev_Asg, ↓ev_Par, ↓ev_Ret, ↓ev_Drop, ↓ev_sIf, ↓ev_Next, ↓ev_Brk, ↓ev_Cont, ↓ev_RetN, ↓ev_Sub, ↓ev_For, ↓ev_body, ↓ev_iE, ↓ev_iR1, ↓ev_iR2, ↓ev_iZ, ↓ev_iEn, ↓ev_item, ↓ev_Lc, ↓ev_Yes, ↓ev_Par3, ↓ev_As2, ↓ev_As4, ↓ev_CV, ↓ev_Fld, ↓ev_Mk, ↓ev_Mk0, ↓ev_Mt, ↓ev_ForM, ↓ev_bodyM, ↓ev_gTmT, ↓ev_gTmR, ↓ev_AsgM, ↓ev_Star, ↓ev_Dc, ↓ev_iRv, kForM_e, kAsgM_e, kSt1_e, kSt2_e, kSt3_e, seqT, seqRf, popRf, insRf, inE, notInE, kDc_e, kRv_e, revT, revL, vOf_e, kO_e, kO2_e, kU_e, kCons_e, kCons2_e, kL_e, kIf_t, kIf_f, kB_e, kTr_e, kTr2_e, kAn_t, kAn_f, kOr_t, kOr_f, kNo_e, kNotB_e, kAnB_t, kAnB_f, kOrB_t, kOrB_f, kTup_e, kLst_e, kCP_e, kD_e, kML_e, kML2_e, kS1_e, kS2_e, kS3_e, kI_e, kCh1_e, kCh2_e, kCh3_t, kCh3_f, kAsg_e, kNx_e, kRet_e, kDrop_e, kSif_t, kSif_f, kSub1_e, kSub2_e, kSub3_e, kNxM_e, kFor_e, kBody_e, kIE_e, kSrc_e, kR1_e, kR2_e, kR2b_e, kZ1_e, kZ2_e, kEn_e, kMap_e, kMap2_e, kIt1_e, kIt2_t, kIt2_f, kSome_e, kLc_e, kLc2_e, kGc_e, par3_e, kAs2_e, kAs3_e, kAs4_e, kAs5_e, kAs6_e, fnOf2_e, fnV_e, kCV_e, kFld1_e, kFld2_e, kMk_e, kMk2_e, kMt_e, kMt2_e, kMt3_e, gFldE, setFE, metE, insAt_zero, insAt_succ, ob_s, ob_n, then_nx, then_rt, then_bk, then_ct, par2_e, turn_nx, turn_ct, turn_bk, turn_rt, runT_nil, runT_cons, mapT_nil, mapT_cons, finP_nx, finM_rt, finM_nx, addE, subE, negE, cmpE, ixT, truI, truB, at0, at1, at2, at3, List.getElem?_cons_zero, List.getElem?_cons_succ, List.set_cons_zero, List.set_cons_succ, List.length_cons, List.length_nil, Nat.reduceAdd, Nat.reduceLeDiff, if_true, if_false, reduceIte, reduceCtorEq, id_eq, Bool.not_true, Bool.not_false, Bool.false_eq_true, and_self, Int.reduceLE, Int.reduceLT, Int.reduceNeg, decide_true, decide_false, Option.toList_some, Option.toList_none, List.cons_append, List.nil_append, ixRf, tupRf, lenRf, listRf, isLstRf, appRf, revRf, setRf, itemsRf, itemsT, itemsL, zipT, zipRf, allRf, anyRf, sumRf, tupT, slRf, isiE, t2E, lenT, lstAt_zero, lstAt_succ, Option.isSome_some, Nat.reduceLT, Bool.or_true, Bool.or_false, Bool.true_or, Bool.false_or, gIsN, gNotN, D.isNon, wipeD, i1, j0, eq_bb, st]
  exact finP_rt _ _ hlo
/-- what lies a root's part along is as far from the middle as the radius says -/
theorem reach_is {w v : P3} {r : Rat} (hz : w.dot w ≠ 0) : P3.dot ⟨v.x + (0 - w.dot v) / w.dot w * w.x, v.y + (0 - w.dot v) / w.dot w * w.y, v.z + (0 - w.dot v) / w.dot w * w.z⟩ ⟨v.x + (0 - w.dot v) / w.dot w * w.x, v.y + (0 - w.dot v) / w.dot w * w.y, v.z + (0 - w.dot v) / w.dot w * w.z⟩ + w.dot w * (1 / w.dot w * (1 / w.dot w) * ballN w v r) = r * r := by
  have hp : (0 - w.dot v) / w.dot w * w.dot w = 0 - w.dot v := Rat.div_mul_cancel hz
  have hq : 1 / w.dot w * w.dot w = 1 := Rat.div_mul_cancel hz
  generalize (0 - w.dot v) / w.dot w = p at *
  generalize 1 / w.dot w = q at *
  have e1 : P3.dot ⟨v.x + p * w.x, v.y + p * w.y, v.z + p * w.z⟩ ⟨v.x + p * w.x, v.y + p * w.y, v.z + p * w.z⟩ = v.dot v + 2 * p * w.dot v + p * (p * w.dot w) := by
    simp only [P3.dot]
    grind
  rw [e1, hp]
  unfold ballN
  generalize w.dot w = a at *
  generalize w.dot v = b at *
  generalize v.dot v = c at *
  have e2 : a * (q * q * (b * b - a * (c - r * r))) = q * a * (q * (b * b) - q * a * (c - r * r)) := by grind
  rw [e2, hq]
  have e3 : p = 0 - q * b := by
    have : p * (q * a) = q * (p * a) := by grind
    rw [hq, hp] at this
    grind
  rw [e3]
  grind

/-! ### small things of the third family -/
theorem itemsP (p : P3) (M : Mem) : itemsOf (eP p) M = some ([eF p.x, eF p.y, eF p.z], fun _ => True) := rfl
theorem listP (p : P3) (M : Mem) : bList [eP p] M = some (.rf M.length, M ++ [Cell.lst [eF p.x, eF p.y, eF p.z]]) := rfl
theorem tupId : D.tup [.tup [eF 1, eF 0, eF 0], .tup [eF 0, eF 1, eF 0], .tup [eF 0, eF 0, eF 1]] = eT id3 := rfl
theorem eF1' : D.tup [.int 1, .int 1] = eF 1 := rfl
theorem divInt_pos {a b : Int} (ha : 0 < a) (hb : 0 < b) : 0 < Rat.divInt a b := by
  have hb' : (0 : Rat) < (b : Rat) := Rat.intCast_pos.mpr hb
  have ha' : (0 : Rat) < (a : Rat) := Rat.intCast_pos.mpr ha
  have e : (a : Rat) = Rat.divInt a b * (b : Rat) := rat_mul_of (by grind) (Rat.divInt_eq_div a b)
  apply Classical.byContradiction
  intro z
  have z : Rat.divInt a b ≤ 0 := by grind
  have := Rat.mul_le_mul_of_nonneg_right z (show 0 ≤ (b : Rat) by grind)
  rw [← e, Rat.zero_mul] at this
  grind
theorem all_app {n : Nat} {A B : Mem} (h : A.all (Cell.lo n) = true) (k : B.all (Cell.lo n) = true) : (A ++ B).all (Cell.lo n) = true := by
  rw [List.all_append, h, k]
  rfl
theorem P3.cmp (p : P3) (i : Int) (h1 : 0 ≤ i) (h2 : i < 3) : ∃ q, (∀ M, gIx (eP p) (.int i) M = some (eF q, M)) ∧ ∀ n, p.B n → Rb n q := by
  have : i = 0 ∨ i = 1 ∨ i = 2 := by omega
  rcases this with rfl | rfl | rfl
  · exact ⟨p.x, fun _ => rfl, fun _ h => h.1⟩
  · exact ⟨p.y, fun _ => rfl, fun _ h => h.2.1⟩
  · exact ⟨p.z, fun _ => rfl, fun _ h => h.2.2⟩
theorem of_two (a b : P3) (i : Int) (h1 : 0 ≤ i) (h2 : i < 2) : ∃ c, atI [eP a, eP b] i = some (eP c) ∧ ∀ n, a.B n → b.B n → c.B n := by
  have : i = 0 ∨ i = 1 := by omega
  rcases this with rfl | rfl
  · exact ⟨a, rfl, fun _ h _ => h⟩
  · exact ⟨b, rfl, fun _ _ h => h⟩
theorem same_mom (n : Nat) (t : Rat) : m__law_same (n + 3) [mom t, mom t] = some (.bl true) :=
  same_tup (fun d hd => by
    simp only [List.mem_cons, List.not_mem_nil, or_false] at hd
    rcases hd with rfl | rfl | rfl <;> exact same_eF _ _) (by simp) rfl
theorem same_met (l : List Spn) : m__law_same 12 [metD l, metD l] = some (.bl true) := by
  have t1 : ∀ b : Mk1, m__law_same 11 [eT1 b, eT1 b] = some (.bl true) := fun b => by
    cases b
    · exact same_non _
    · exact same_mom 8 _
  have i1 : ∀ b : Mk1, m__law_same 11 [eI1 b, eI1 b] = some (.bl true) := fun b => by
    cases b
    · exact same_non _
    · exact same_int _ _
  unfold metD
  split
  · exact same_non _
  · split
    · exact same_tup (n := 11) (fun d hd => by
        simp only [List.mem_cons, List.not_mem_nil, or_false] at hd
        rcases hd with rfl | rfl | rfl | rfl <;> first | exact same_mom 8 _ | exact same_int _ _) (by simp) rfl
    · exact same_non _
  · rename_i b e _ _
    exact same_tup (n := 11) (fun d hd => by
      simp only [List.mem_cons, List.not_mem_nil, or_false] at hd
      rcases hd with rfl | rfl | rfl | rfl <;> first | exact t1 _ | exact i1 _) (by simp) (by cases b <;> cases e <;> rfl)
theorem box_id (lo hi p w : P3) : boxD no3 no3 lo hi p w id3.cols = metD [spanOf w.x (lo.x - p.x) (hi.x - p.x) (2 * 0) (2 * 0 + 1), spanOf w.y (lo.y - p.y) (hi.y - p.y) (2 * 1) (2 * 1 + 1), spanOf w.z (lo.z - p.z) (hi.z - p.z) (2 * 2) (2 * 2 + 1)] := by
  have d1 : ∀ q : P3, id3.cols.a.dot q = q.x := fun q => by simp only [P3.dot, T3.cols, id3]; grind
  have d2 : ∀ q : P3, id3.cols.b.dot q = q.y := fun q => by simp only [P3.dot, T3.cols, id3]; grind
  have d3 : ∀ q : P3, id3.cols.c.dot q = q.z := fun q => by simp only [P3.dot, T3.cols, id3]; grind
  unfold boxD
  rw [d1, d1, d1, d2, d2, d2, d3, d3, d3]
  simp only [no3, Rat.add_zero]

/-! ### leaves of any form, anyhow placed -/
inductive Fm where
  | box (lo hi : P3)
  | half (f : P3) (c : Rat)
  | ball (m : P3) (r : Rat)
def eFm : Fm → D
  | .box lo hi => eBox lo hi
  | .half f c => eHalf f c
  | .ball m r => eBall m r
def Fm.B (n : Nat) : Fm → Prop
  | .box lo hi => lo.B n ∧ hi.B n
  | .half f c => f.B n ∧ Rb n c
  | .ball m r => m.B n ∧ Rb n r
theorem Fm.B.mono {m n : Nat} {F : Fm} (h : F.B m) (hn : m ≤ n) : F.B n := by
  cases F <;> exact ⟨h.1.mono hn, h.2.mono hn⟩
theorem lo_eFm (n : Nat) (F : Fm) : D.lo n (eFm F) = true := by cases F <;> rfl
theorem slab_half' {n1 n2 n3 n4 : Nat} {f p w : P3} {c : Rat} (hf : f.B n1) (hc : Rb n4 c) (hp : p.B n2) (hw : w.B n3) (k1 : n1 ≤ 400) (k2 : n2 ≤ 400) (k3 : n3 ≤ 400) (k4 : n4 ≤ 2000) : m_slab_stretch [.tup [eP f, .non, eF c, .non, .int 0], .tup [eP p, eP w]] = some (halfD (f.dot w) (c - f.dot p)) := by
  have d1 := dot_e hf hp (by omega)
  have d2 := dot_e hf hw (by omega)
  have b1 := Rb.dot hf hp
  have b2 := Rb.dot hf hw
  have m1 := minus_e hc b1 (by omega)
  have b3 := hc.sub b1
  generalize f.dot p = u at *
  generalize f.dot w = s at *
  rw [e_slab_stretch _ _ rfl]
  unfold b_slab_stretch
  unfold halfD
  by_cases hs : s = 0
  · rw [if_pos hs]
    by_cases hl : 0 < c - u
    · rw [if_pos hl]
      simp only [↓ev_V, ↓ev_C, ↓ev_O, ↓ev_U, ↓ev_Nil, ↓ev_Cons, ↓ev_L, ↓ev_If, ↓ev_tV, ↓ev_tTr, ↓ev_tAn, ↓ev_tOr, ↓ev_tNo, ↓ev_NotB, ↓ev_AnB, ↓ev_OrB, ↓ev_Tup, ↓ev_Lst, ↓ev_CP, ↓ev_ML, ↓ev_Sli, ↓ev_oN, ↓ev_oS, ↓ev_Ch, ↓ev_gN, ↓ev_gsNil, ↓ev_gsCons, ↓ev_gT, ↓ev_Seq, ↓ev_Asg, ↓ev_Par, ↓ev_Ret, ↓ev_Drop, ↓ev_sIf, ↓ev_Next, ↓ev_Brk, ↓ev_Cont, ↓ev_RetN, ↓ev_Sub, ↓ev_For, ↓ev_body, ↓ev_iE, ↓ev_iR1, ↓ev_iR2, ↓ev_iZ, ↓ev_iEn, ↓ev_item, ↓ev_Lc, ↓ev_Yes, ↓ev_Par3, ↓ev_As2, ↓ev_As4, ↓ev_CV, ↓ev_Fld, ↓ev_Mk, ↓ev_Mk0, ↓ev_Mt, ↓ev_ForM, ↓ev_bodyM, ↓ev_gTmT, ↓ev_gTmR, ↓ev_AsgM, ↓ev_Star, ↓ev_Dc, ↓ev_iRv, kForM_e, kAsgM_e, kSt1_e, kSt2_e, kSt3_e, seqT, seqRf, popRf, insRf, inE, notInE, kDc_e, kRv_e, revT, revL, vOf_e, kO_e, kO2_e, kU_e, kCons_e, kCons2_e, kL_e, kIf_t, kIf_f, kB_e, kTr_e, kTr2_e, kAn_t, kAn_f, kOr_t, kOr_f, kNo_e, kNotB_e, kAnB_t, kAnB_f, kOrB_t, kOrB_f, kTup_e, kLst_e, kCP_e, kD_e, kML_e, kML2_e, kS1_e, kS2_e, kS3_e, kI_e, kCh1_e, kCh2_e, kCh3_t, kCh3_f, kAsg_e, kNx_e, kRet_e, kDrop_e, kSif_t, kSif_f, kSub1_e, kSub2_e, kSub3_e, kNxM_e, kFor_e, kBody_e, kIE_e, kSrc_e, kR1_e, kR2_e, kR2b_e, kZ1_e, kZ2_e, kEn_e, kMap_e, kMap2_e, kIt1_e, kIt2_t, kIt2_f, kSome_e, kLc_e, kLc2_e, kGc_e, par3_e, kAs2_e, kAs3_e, kAs4_e, kAs5_e, kAs6_e, fnOf2_e, fnV_e, kCV_e, kFld1_e, kFld2_e, kMk_e, kMk2_e, kMt_e, kMt2_e, kMt3_e, gFldE, setFE, metE, insAt_zero, insAt_succ, ob_s, ob_n, then_nx, then_rt, then_bk, then_ct, par2_e, turn_nx, turn_ct, turn_bk, turn_rt, runT_nil, runT_cons, mapT_nil, mapT_cons, finP_nx, finM_rt, finM_nx, addE, subE, negE, cmpE, ixT, truI, truB, at0, at1, at2, at3, List.getElem?_cons_zero, List.getElem?_cons_succ, List.set_cons_zero, List.set_cons_succ, List.length_cons, List.length_nil, Nat.reduceAdd, Nat.reduceLeDiff, if_true, if_false, reduceIte, reduceCtorEq, id_eq, Bool.not_true, Bool.not_false, Bool.false_eq_true, and_self, Int.reduceLE, Int.reduceLT, Int.reduceNeg, decide_true, decide_false, Option.toList_some, Option.toList_none, List.cons_append, List.nil_append, ixRf, tupRf, lenRf, listRf, isLstRf, appRf, revRf, setRf, itemsRf, itemsT, itemsL, zipT, zipRf, allRf, anyRf, sumRf, tupT, slRf, isiE, t2E, lenT, lstAt_zero, lstAt_succ, Option.isSome_some, Nat.reduceLT, Bool.or_true, Bool.or_false, Bool.true_or, Bool.false_or, gIsN, gNotN, D.isNon, wipeD, d1, d2, m1, sg_e, eqIb, sgn_eq, sgn_gt, decide_eq_true hs, decide_eq_true hl]
      exact finP_rt _ _ rfl
    · rw [if_neg hl]
      simp only [↓ev_V, ↓ev_C, ↓ev_O, ↓ev_U, ↓ev_Nil, ↓ev_Cons, ↓ev_L, ↓ev_If, ↓ev_tV, ↓ev_tTr, ↓ev_tAn, ↓ev_tOr, ↓ev_tNo, ↓ev_NotB, ↓ev_AnB, ↓ev_OrB, ↓ev_Tup, ↓ev_Lst, ↓ev_CP, ↓ev_ML, ↓ev_Sli, ↓ev_oN, ↓ev_oS, ↓ev_Ch, ↓ev_gN, ↓ev_gsNil, ↓ev_gsCons, ↓ev_gT, ↓ev_Seq, ↓ev_Asg, ↓ev_Par, ↓ev_Ret, ↓ev_Drop, ↓ev_sIf, ↓ev_Next, ↓ev_Brk, ↓ev_Cont, ↓ev_RetN, ↓ev_Sub, ↓ev_For, ↓ev_body, ↓ev_iE, ↓ev_iR1, ↓ev_iR2, ↓ev_iZ, ↓ev_iEn, ↓ev_item, ↓ev_Lc, ↓ev_Yes, ↓ev_Par3, ↓ev_As2, ↓ev_As4, ↓ev_CV, ↓ev_Fld, ↓ev_Mk, ↓ev_Mk0, ↓ev_Mt, ↓ev_ForM, ↓ev_bodyM, ↓ev_gTmT, ↓ev_gTmR, ↓ev_AsgM, ↓ev_Star, ↓ev_Dc, ↓ev_iRv, kForM_e, kAsgM_e, kSt1_e, kSt2_e, kSt3_e, seqT, seqRf, popRf, insRf, inE, notInE, kDc_e, kRv_e, revT, revL, vOf_e, kO_e, kO2_e, kU_e, kCons_e, kCons2_e, kL_e, kIf_t, kIf_f, kB_e, kTr_e, kTr2_e, kAn_t, kAn_f, kOr_t, kOr_f, kNo_e, kNotB_e, kAnB_t, kAnB_f, kOrB_t, kOrB_f, kTup_e, kLst_e, kCP_e, kD_e, kML_e, kML2_e, kS1_e, kS2_e, kS3_e, kI_e, kCh1_e, kCh2_e, kCh3_t, kCh3_f, kAsg_e, kNx_e, kRet_e, kDrop_e, kSif_t, kSif_f, kSub1_e, kSub2_e, kSub3_e, kNxM_e, kFor_e, kBody_e, kIE_e, kSrc_e, kR1_e, kR2_e, kR2b_e, kZ1_e, kZ2_e, kEn_e, kMap_e, kMap2_e, kIt1_e, kIt2_t, kIt2_f, kSome_e, kLc_e, kLc2_e, kGc_e, par3_e, kAs2_e, kAs3_e, kAs4_e, kAs5_e, kAs6_e, fnOf2_e, fnV_e, kCV_e, kFld1_e, kFld2_e, kMk_e, kMk2_e, kMt_e, kMt2_e, kMt3_e, gFldE, setFE, metE, insAt_zero, insAt_succ, ob_s, ob_n, then_nx, then_rt, then_bk, then_ct, par2_e, turn_nx, turn_ct, turn_bk, turn_rt, runT_nil, runT_cons, mapT_nil, mapT_cons, finP_nx, finM_rt, finM_nx, addE, subE, negE, cmpE, ixT, truI, truB, at0, at1, at2, at3, List.getElem?_cons_zero, List.getElem?_cons_succ, List.set_cons_zero, List.set_cons_succ, List.length_cons, List.length_nil, Nat.reduceAdd, Nat.reduceLeDiff, if_true, if_false, reduceIte, reduceCtorEq, id_eq, Bool.not_true, Bool.not_false, Bool.false_eq_true, and_self, Int.reduceLE, Int.reduceLT, Int.reduceNeg, decide_true, decide_false, Option.toList_some, Option.toList_none, List.cons_append, List.nil_append, ixRf, tupRf, lenRf, listRf, isLstRf, appRf, revRf, setRf, itemsRf, itemsT, itemsL, zipT, zipRf, allRf, anyRf, sumRf, tupT, slRf, isiE, t2E, lenT, lstAt_zero, lstAt_succ, Option.isSome_some, Nat.reduceLT, Bool.or_true, Bool.or_false, Bool.true_or, Bool.false_or, gIsN, gNotN, D.isNon, wipeD, d1, d2, m1, sg_e, eqIb, sgn_eq, sgn_gt, decide_eq_true hs, decide_eq_false hl]
      exact finP_rt _ _ rfl
  · rw [if_neg hs]
    have f1 := flat_moment_e b3 b2 (by omega) hs
    have f0 := flat_none s
    by_cases hp : 0 < s
    · rw [if_pos hp]
      have dr : m_directed [.int (sgn s), .non, mom ((c - u) / s), .tup [eP f, .non, eF c, .non, .int 0]] = some (.tup [.non, mom ((c - u) / s), .non, .int 0]) := by
        rw [e_directed _ _ _ _ rfl]
        unfold b_directed
        simp only [↓ev_V, ↓ev_C, ↓ev_O, ↓ev_U, ↓ev_Nil, ↓ev_Cons, ↓ev_L, ↓ev_If, ↓ev_tV, ↓ev_tTr, ↓ev_tAn, ↓ev_tOr, ↓ev_tNo, ↓ev_NotB, ↓ev_AnB, ↓ev_OrB, ↓ev_Tup, ↓ev_Lst, ↓ev_CP, ↓ev_ML, ↓ev_Sli, ↓ev_oN, ↓ev_oS, ↓ev_Ch, ↓ev_gN, ↓ev_gsNil, ↓ev_gsCons, ↓ev_gT, ↓ev_Seq, ↓ev_Asg, ↓ev_Par, ↓ev_Ret, ↓ev_Drop, ↓ev_sIf, ↓ev_Next, ↓ev_Brk, ↓ev_Cont, ↓ev_RetN, ↓ev_Sub, ↓ev_For, ↓ev_body, ↓ev_iE, ↓ev_iR1, ↓ev_iR2, ↓ev_iZ, ↓ev_iEn, ↓ev_item, ↓ev_Lc, ↓ev_Yes, ↓ev_Par3, ↓ev_As2, ↓ev_As4, ↓ev_CV, ↓ev_Fld, ↓ev_Mk, ↓ev_Mk0, ↓ev_Mt, ↓ev_ForM, ↓ev_bodyM, ↓ev_gTmT, ↓ev_gTmR, ↓ev_AsgM, ↓ev_Star, ↓ev_Dc, ↓ev_iRv, kForM_e, kAsgM_e, kSt1_e, kSt2_e, kSt3_e, seqT, seqRf, popRf, insRf, inE, notInE, kDc_e, kRv_e, revT, revL, vOf_e, kO_e, kO2_e, kU_e, kCons_e, kCons2_e, kL_e, kIf_t, kIf_f, kB_e, kTr_e, kTr2_e, kAn_t, kAn_f, kOr_t, kOr_f, kNo_e, kNotB_e, kAnB_t, kAnB_f, kOrB_t, kOrB_f, kTup_e, kLst_e, kCP_e, kD_e, kML_e, kML2_e, kS1_e, kS2_e, kS3_e, kI_e, kCh1_e, kCh2_e, kCh3_t, kCh3_f, kAsg_e, kNx_e, kRet_e, kDrop_e, kSif_t, kSif_f, kSub1_e, kSub2_e, kSub3_e, kNxM_e, kFor_e, kBody_e, kIE_e, kSrc_e, kR1_e, kR2_e, kR2b_e, kZ1_e, kZ2_e, kEn_e, kMap_e, kMap2_e, kIt1_e, kIt2_t, kIt2_f, kSome_e, kLc_e, kLc2_e, kGc_e, par3_e, kAs2_e, kAs3_e, kAs4_e, kAs5_e, kAs6_e, fnOf2_e, fnV_e, kCV_e, kFld1_e, kFld2_e, kMk_e, kMk2_e, kMt_e, kMt2_e, kMt3_e, gFldE, setFE, metE, insAt_zero, insAt_succ, ob_s, ob_n, then_nx, then_rt, then_bk, then_ct, par2_e, turn_nx, turn_ct, turn_bk, turn_rt, runT_nil, runT_cons, mapT_nil, mapT_cons, finP_nx, finM_rt, finM_nx, addE, subE, negE, cmpE, ixT, truI, truB, at0, at1, at2, at3, List.getElem?_cons_zero, List.getElem?_cons_succ, List.set_cons_zero, List.set_cons_succ, List.length_cons, List.length_nil, Nat.reduceAdd, Nat.reduceLeDiff, if_true, if_false, reduceIte, reduceCtorEq, id_eq, Bool.not_true, Bool.not_false, Bool.false_eq_true, and_self, Int.reduceLE, Int.reduceLT, Int.reduceNeg, decide_true, decide_false, Option.toList_some, Option.toList_none, List.cons_append, List.nil_append, ixRf, tupRf, lenRf, listRf, isLstRf, appRf, revRf, setRf, itemsRf, itemsT, itemsL, zipT, zipRf, allRf, anyRf, sumRf, tupT, slRf, isiE, t2E, lenT, lstAt_zero, lstAt_succ, Option.isSome_some, Nat.reduceLT, Bool.or_true, Bool.or_false, Bool.true_or, Bool.false_or, gIsN, gNotN, D.isNon, wipeD, sgn_gt, decide_eq_true hp, at4]
        exact finP_rt _ _ rfl
      simp only [↓ev_V, ↓ev_C, ↓ev_O, ↓ev_U, ↓ev_Nil, ↓ev_Cons, ↓ev_L, ↓ev_If, ↓ev_tV, ↓ev_tTr, ↓ev_tAn, ↓ev_tOr, ↓ev_tNo, ↓ev_NotB, ↓ev_AnB, ↓ev_OrB, ↓ev_Tup, ↓ev_Lst, ↓ev_CP, ↓ev_ML, ↓ev_Sli, ↓ev_oN, ↓ev_oS, ↓ev_Ch, ↓ev_gN, ↓ev_gsNil, ↓ev_gsCons, ↓ev_gT, ↓ev_Seq, ↓ev_Asg, ↓ev_Par, ↓ev_Ret, ↓ev_Drop, ↓ev_sIf, ↓ev_Next, ↓ev_Brk, ↓ev_Cont, ↓ev_RetN, ↓ev_Sub, ↓ev_For, ↓ev_body, ↓ev_iE, ↓ev_iR1, ↓ev_iR2, ↓ev_iZ, ↓ev_iEn, ↓ev_item, ↓ev_Lc, ↓ev_Yes, ↓ev_Par3, ↓ev_As2, ↓ev_As4, ↓ev_CV, ↓ev_Fld, ↓ev_Mk, ↓ev_Mk0, ↓ev_Mt, ↓ev_ForM, ↓ev_bodyM, ↓ev_gTmT, ↓ev_gTmR, ↓ev_AsgM, ↓ev_Star, ↓ev_Dc, ↓ev_iRv, kForM_e, kAsgM_e, kSt1_e, kSt2_e, kSt3_e, seqT, seqRf, popRf, insRf, inE, notInE, kDc_e, kRv_e, revT, revL, vOf_e, kO_e, kO2_e, kU_e, kCons_e, kCons2_e, kL_e, kIf_t, kIf_f, kB_e, kTr_e, kTr2_e, kAn_t, kAn_f, kOr_t, kOr_f, kNo_e, kNotB_e, kAnB_t, kAnB_f, kOrB_t, kOrB_f, kTup_e, kLst_e, kCP_e, kD_e, kML_e, kML2_e, kS1_e, kS2_e, kS3_e, kI_e, kCh1_e, kCh2_e, kCh3_t, kCh3_f, kAsg_e, kNx_e, kRet_e, kDrop_e, kSif_t, kSif_f, kSub1_e, kSub2_e, kSub3_e, kNxM_e, kFor_e, kBody_e, kIE_e, kSrc_e, kR1_e, kR2_e, kR2b_e, kZ1_e, kZ2_e, kEn_e, kMap_e, kMap2_e, kIt1_e, kIt2_t, kIt2_f, kSome_e, kLc_e, kLc2_e, kGc_e, par3_e, kAs2_e, kAs3_e, kAs4_e, kAs5_e, kAs6_e, fnOf2_e, fnV_e, kCV_e, kFld1_e, kFld2_e, kMk_e, kMk2_e, kMt_e, kMt2_e, kMt3_e, gFldE, setFE, metE, insAt_zero, insAt_succ, ob_s, ob_n, then_nx, then_rt, then_bk, then_ct, par2_e, turn_nx, turn_ct, turn_bk, turn_rt, runT_nil, runT_cons, mapT_nil, mapT_cons, finP_nx, finM_rt, finM_nx, addE, subE, negE, cmpE, ixT, truI, truB, at0, at1, at2, at3, List.getElem?_cons_zero, List.getElem?_cons_succ, List.set_cons_zero, List.set_cons_succ, List.length_cons, List.length_nil, Nat.reduceAdd, Nat.reduceLeDiff, if_true, if_false, reduceIte, reduceCtorEq, id_eq, Bool.not_true, Bool.not_false, Bool.false_eq_true, and_self, Int.reduceLE, Int.reduceLT, Int.reduceNeg, decide_true, decide_false, Option.toList_some, Option.toList_none, List.cons_append, List.nil_append, ixRf, tupRf, lenRf, listRf, isLstRf, appRf, revRf, setRf, itemsRf, itemsT, itemsL, zipT, zipRf, allRf, anyRf, sumRf, tupT, slRf, isiE, t2E, lenT, lstAt_zero, lstAt_succ, Option.isSome_some, Nat.reduceLT, Bool.or_true, Bool.or_false, Bool.true_or, Bool.false_or, gIsN, gNotN, D.isNon, wipeD, d1, d2, m1, sg_e, eqIb, sgn_eq, decide_eq_false hs, f0, f1, dr]
      exact finP_rt _ _ rfl
    · rw [if_neg hp]
      have dr : m_directed [.int (sgn s), .non, mom ((c - u) / s), .tup [eP f, .non, eF c, .non, .int 0]] = some (.tup [mom ((c - u) / s), .non, .int 0, .non]) := by
        rw [e_directed _ _ _ _ rfl]
        unfold b_directed
        simp only [↓ev_V, ↓ev_C, ↓ev_O, ↓ev_U, ↓ev_Nil, ↓ev_Cons, ↓ev_L, ↓ev_If, ↓ev_tV, ↓ev_tTr, ↓ev_tAn, ↓ev_tOr, ↓ev_tNo, ↓ev_NotB, ↓ev_AnB, ↓ev_OrB, ↓ev_Tup, ↓ev_Lst, ↓ev_CP, ↓ev_ML, ↓ev_Sli, ↓ev_oN, ↓ev_oS, ↓ev_Ch, ↓ev_gN, ↓ev_gsNil, ↓ev_gsCons, ↓ev_gT, ↓ev_Seq, ↓ev_Asg, ↓ev_Par, ↓ev_Ret, ↓ev_Drop, ↓ev_sIf, ↓ev_Next, ↓ev_Brk, ↓ev_Cont, ↓ev_RetN, ↓ev_Sub, ↓ev_For, ↓ev_body, ↓ev_iE, ↓ev_iR1, ↓ev_iR2, ↓ev_iZ, ↓ev_iEn, ↓ev_item, ↓ev_Lc, ↓ev_Yes, ↓ev_Par3, ↓ev_As2, ↓ev_As4, ↓ev_CV, ↓ev_Fld, ↓ev_Mk, ↓ev_Mk0, ↓ev_Mt, ↓ev_ForM, ↓ev_bodyM, ↓ev_gTmT, ↓ev_gTmR, ↓ev_AsgM, ↓ev_Star, ↓ev_Dc, ↓ev_iRv, kForM_e, kAsgM_e, kSt1_e, kSt2_e, kSt3_e, seqT, seqRf, popRf, insRf, inE, notInE, kDc_e, kRv_e, revT, revL, vOf_e, kO_e, kO2_e, kU_e, kCons_e, kCons2_e, kL_e, kIf_t, kIf_f, kB_e, kTr_e, kTr2_e, kAn_t, kAn_f, kOr_t, kOr_f, kNo_e, kNotB_e, kAnB_t, kAnB_f, kOrB_t, kOrB_f, kTup_e, kLst_e, kCP_e, kD_e, kML_e, kML2_e, kS1_e, kS2_e, kS3_e, kI_e, kCh1_e, kCh2_e, kCh3_t, kCh3_f, kAsg_e, kNx_e, kRet_e, kDrop_e, kSif_t, kSif_f, kSub1_e, kSub2_e, kSub3_e, kNxM_e, kFor_e, kBody_e, kIE_e, kSrc_e, kR1_e, kR2_e, kR2b_e, kZ1_e, kZ2_e, kEn_e, kMap_e, kMap2_e, kIt1_e, kIt2_t, kIt2_f, kSome_e, kLc_e, kLc2_e, kGc_e, par3_e, kAs2_e, kAs3_e, kAs4_e, kAs5_e, kAs6_e, fnOf2_e, fnV_e, kCV_e, kFld1_e, kFld2_e, kMk_e, kMk2_e, kMt_e, kMt2_e, kMt3_e, gFldE, setFE, metE, insAt_zero, insAt_succ, ob_s, ob_n, then_nx, then_rt, then_bk, then_ct, par2_e, turn_nx, turn_ct, turn_bk, turn_rt, runT_nil, runT_cons, mapT_nil, mapT_cons, finP_nx, finM_rt, finM_nx, addE, subE, negE, cmpE, ixT, truI, truB, at0, at1, at2, at3, List.getElem?_cons_zero, List.getElem?_cons_succ, List.set_cons_zero, List.set_cons_succ, List.length_cons, List.length_nil, Nat.reduceAdd, Nat.reduceLeDiff, if_true, if_false, reduceIte, reduceCtorEq, id_eq, Bool.not_true, Bool.not_false, Bool.false_eq_true, and_self, Int.reduceLE, Int.reduceLT, Int.reduceNeg, decide_true, decide_false, Option.toList_some, Option.toList_none, List.cons_append, List.nil_append, ixRf, tupRf, lenRf, listRf, isLstRf, appRf, revRf, setRf, itemsRf, itemsT, itemsL, zipT, zipRf, allRf, anyRf, sumRf, tupT, slRf, isiE, t2E, lenT, lstAt_zero, lstAt_succ, Option.isSome_some, Nat.reduceLT, Bool.or_true, Bool.or_false, Bool.true_or, Bool.false_or, gIsN, gNotN, D.isNon, wipeD, sgn_gt, decide_eq_false hp, at4]
        exact finP_rt _ _ rfl
      simp only [↓ev_V, ↓ev_C, ↓ev_O, ↓ev_U, ↓ev_Nil, ↓ev_Cons, ↓ev_L, ↓ev_If, ↓ev_tV, ↓ev_tTr, ↓ev_tAn, ↓ev_tOr, ↓ev_tNo, ↓ev_NotB, ↓ev_AnB, ↓ev_OrB, ↓ev_Tup, ↓ev_Lst, ↓ev_CP, ↓ev_ML, ↓ev_Sli, ↓ev_oN, ↓ev_oS, ↓ev_Ch, ↓ev_gN, ↓ev_gsNil, ↓ev_gsCons, ↓ev_gT, ↓ev_Seq, ↓ev_Asg, ↓ev_Par, ↓ev_Ret, ↓ev_Drop, ↓ev_sIf, ↓ev_Next, ↓ev_Brk, ↓ev_Cont, ↓ev_RetN, ↓ev_Sub, ↓ev_For, ↓ev_body, ↓ev_iE, ↓ev_iR1, ↓ev_iR2, ↓ev_iZ, ↓ev_iEn, ↓ev_item, ↓ev_Lc, ↓ev_Yes, ↓ev_Par3, ↓ev_As2, ↓ev_As4, ↓ev_CV, ↓ev_Fld, ↓ev_Mk, ↓ev_Mk0, ↓ev_Mt, ↓ev_ForM, ↓ev_bodyM, ↓ev_gTmT, ↓ev_gTmR, ↓ev_AsgM, ↓ev_Star, ↓ev_Dc, ↓ev_iRv, kForM_e, kAsgM_e, kSt1_e, kSt2_e, kSt3_e, seqT, seqRf, popRf, insRf, inE, notInE, kDc_e, kRv_e, revT, revL, vOf_e, kO_e, kO2_e, kU_e, kCons_e, kCons2_e, kL_e, kIf_t, kIf_f, kB_e, kTr_e, kTr2_e, kAn_t, kAn_f, kOr_t, kOr_f, kNo_e, kNotB_e, kAnB_t, kAnB_f, kOrB_t, kOrB_f, kTup_e, kLst_e, kCP_e, kD_e, kML_e, kML2_e, kS1_e, kS2_e, kS3_e, kI_e, kCh1_e, kCh2_e, kCh3_t, kCh3_f, kAsg_e, kNx_e, kRet_e, kDrop_e, kSif_t, kSif_f, kSub1_e, kSub2_e, kSub3_e, kNxM_e, kFor_e, kBody_e, kIE_e, kSrc_e, kR1_e, kR2_e, kR2b_e, kZ1_e, kZ2_e, kEn_e, kMap_e, kMap2_e, kIt1_e, kIt2_t, kIt2_f, kSome_e, kLc_e, kLc2_e, kGc_e, par3_e, kAs2_e, kAs3_e, kAs4_e, kAs5_e, kAs6_e, fnOf2_e, fnV_e, kCV_e, kFld1_e, kFld2_e, kMk_e, kMk2_e, kMt_e, kMt2_e, kMt3_e, gFldE, setFE, metE, insAt_zero, insAt_succ, ob_s, ob_n, then_nx, then_rt, then_bk, then_ct, par2_e, turn_nx, turn_ct, turn_bk, turn_rt, runT_nil, runT_cons, mapT_nil, mapT_cons, finP_nx, finM_rt, finM_nx, addE, subE, negE, cmpE, ixT, truI, truB, at0, at1, at2, at3, List.getElem?_cons_zero, List.getElem?_cons_succ, List.set_cons_zero, List.set_cons_succ, List.length_cons, List.length_nil, Nat.reduceAdd, Nat.reduceLeDiff, if_true, if_false, reduceIte, reduceCtorEq, id_eq, Bool.not_true, Bool.not_false, Bool.false_eq_true, and_self, Int.reduceLE, Int.reduceLT, Int.reduceNeg, decide_true, decide_false, Option.toList_some, Option.toList_none, List.cons_append, List.nil_append, ixRf, tupRf, lenRf, listRf, isLstRf, appRf, revRf, setRf, itemsRf, itemsT, itemsL, zipT, zipRf, allRf, anyRf, sumRf, tupT, slRf, isiE, t2E, lenT, lstAt_zero, lstAt_succ, Option.isSome_some, Nat.reduceLT, Bool.or_true, Bool.or_false, Bool.true_or, Bool.false_or, gIsN, gNotN, D.isNon, wipeD, d1, d2, m1, sg_e, eqIb, sgn_eq, decide_eq_false hs, f0, f1, dr]
      exact finP_rt _ _ rfl
section
variable {nm : Str} {t : T3} {s p w : P3} (ht : t.B 60) (hs : s.B 100) (hp : p.B 100) (hw : w.B 100)
include ht hs
theorem slabs_half' {f : P3} {c : Rat} (hf : f.B 20) (hc : Rb 20 c) : m_slabs_of [eLeafN nm (eHalf f c) t s] [] = some (.rf 0, [.lst [.tup [eP (t.app f), .non, eF (c + (t.app f).dot s), .non, .int 0]]]) := by
  have tu := turned_e ht hf (by decide)
  have hb := ht.app hf
  have d := dot_e hb hs (by decide)
  have p := plus_e hc (Rb.dot hb hs) (by decide)
  have i1 : ∀ M, gIx (eLeafN nm (eHalf f c) t s) (.int 1) M = some (eHalf f c, M) := fun _ => rfl
  have i2 : ∀ M, gIx (eLeafN nm (eHalf f c) t s) (.int 2) M = some (eT t, M) := fun _ => rfl
  have i3 : ∀ M, gIx (eLeafN nm (eHalf f c) t s) (.int 3) M = some (eP s, M) := fun _ => rfl
  have j0 : ∀ M, gIx (eHalf f c) (.int 0) M = some (.str "half", M) := fun _ => rfl
  have j1 : ∀ M, gIx (eHalf f c) (.int 1) M = some (eP f, M) := fun _ => rfl
  have j2 : ∀ M, gIx (eHalf f c) (.int 2) M = some (eF c, M) := fun _ => rfl
  rw [e_slabs_of]
  unfold b_slabs_of
  simp only [↓ev_V, ↓ev_C, ↓ev_O, ↓ev_U, ↓ev_Nil, ↓ev_Cons, ↓ev_L, ↓ev_If, ↓ev_tV, ↓ev_tTr, ↓ev_tAn, ↓ev_tOr, ↓ev_tNo, ↓ev_NotB, ↓ev_AnB, ↓ev_OrB, ↓ev_Tup, ↓ev_Lst, ↓ev_CP, ↓ev_ML, ↓ev_Sli, ↓ev_oN, ↓ev_oS, ↓ev_Ch, ↓ev_gN, ↓ev_gsNil, ↓ev_gsCons, ↓ev_gT, ↓ev_Seq, ↓ev_Asg, ↓ev_Par, ↓ev_Ret, ↓ev_Drop, ↓ev_sIf, ↓ev_Next, ↓ev_Brk, ↓ev_Cont, ↓ev_RetN, ↓ev_Sub, ↓ev_For, ↓ev_body, ↓ev_iE, ↓ev_iR1, ↓ev_iR2, ↓ev_iZ, ↓ev_iEn, ↓ev_item, ↓ev_Lc, ↓ev_Yes, ↓ev_Par3, ↓ev_As2, ↓ev_As4, ↓ev_CV, ↓ev_Fld, ↓ev_Mk, ↓ev_Mk0, ↓ev_Mt, ↓ev_ForM, ↓ev_bodyM, ↓ev_gTmT, ↓ev_gTmR, ↓ev_AsgM, ↓ev_Star, ↓ev_Dc, ↓ev_iRv, kForM_e, kAsgM_e, kSt1_e, kSt2_e, kSt3_e, seqT, seqRf, popRf, insRf, inE, notInE, kDc_e, kRv_e, revT, revL, vOf_e, kO_e, kO2_e, kU_e, kCons_e, kCons2_e, kL_e, kIf_t, kIf_f, kB_e, kTr_e, kTr2_e, kAn_t, kAn_f, kOr_t, kOr_f, kNo_e, kNotB_e, kAnB_t, kAnB_f, kOrB_t, kOrB_f, kTup_e, kLst_e, kCP_e, kD_e, kML_e, kML2_e, kS1_e, kS2_e, kS3_e, kI_e, kCh1_e, kCh2_e, kCh3_t, kCh3_f, kAsg_e, kNx_e, kRet_e, kDrop_e, kSif_t, kSif_f, kSub1_e, kSub2_e, kSub3_e, kNxM_e, kFor_e, kBody_e, kIE_e, kSrc_e, kR1_e, kR2_e, kR2b_e, kZ1_e, kZ2_e, kEn_e, kMap_e, kMap2_e, kIt1_e, kIt2_t, kIt2_f, kSome_e, kLc_e, kLc2_e, kGc_e, par3_e, kAs2_e, kAs3_e, kAs4_e, kAs5_e, kAs6_e, fnOf2_e, fnV_e, kCV_e, kFld1_e, kFld2_e, kMk_e, kMk2_e, kMt_e, kMt2_e, kMt3_e, gFldE, setFE, metE, insAt_zero, insAt_succ, ob_s, ob_n, then_nx, then_rt, then_bk, then_ct, par2_e, turn_nx, turn_ct, turn_bk, turn_rt, runT_nil, runT_cons, mapT_nil, mapT_cons, finP_nx, finM_rt, finM_nx, addE, subE, negE, cmpE, ixT, truI, truB, at0, at1, at2, at3, List.getElem?_cons_zero, List.getElem?_cons_succ, List.set_cons_zero, List.set_cons_succ, List.length_cons, List.length_nil, Nat.reduceAdd, Nat.reduceLeDiff, if_true, if_false, reduceIte, reduceCtorEq, id_eq, Bool.not_true, Bool.not_false, Bool.false_eq_true, and_self, Int.reduceLE, Int.reduceLT, Int.reduceNeg, decide_true, decide_false, Option.toList_some, Option.toList_none, List.cons_append, List.nil_append, ixRf, tupRf, lenRf, listRf, isLstRf, appRf, revRf, setRf, itemsRf, itemsT, itemsL, zipT, zipRf, allRf, anyRf, sumRf, tupT, slRf, isiE, t2E, lenT, lstAt_zero, lstAt_succ, Option.isSome_some, Nat.reduceLT, Bool.or_true, Bool.or_false, Bool.true_or, Bool.false_or, gIsN, gNotN, D.isNon, wipeD, i1, i2, i3, j0, j1, j2, eq_hh, tu, d, p]
theorem ball_of' {m : P3} {r : Rat} (hm : m.B 20) : m_ball_of [eLeafN nm (eBall m r) t s] = some (.tup [eP ((t.app m).add s), eF r]) := by
  have tu := turned_e ht hm (by decide)
  have hb := ht.app hm
  have sm := together_e hb hs (by decide)
  have i1 : ∀ M, gIx (eLeafN nm (eBall m r) t s) (.int 1) M = some (eBall m r, M) := fun _ => rfl
  have i2 : ∀ M, gIx (eLeafN nm (eBall m r) t s) (.int 2) M = some (eT t, M) := fun _ => rfl
  have i3 : ∀ M, gIx (eLeafN nm (eBall m r) t s) (.int 3) M = some (eP s, M) := fun _ => rfl
  have j1 : ∀ M, gIx (eBall m r) (.int 1) M = some (eP m, M) := fun _ => rfl
  have j2 : ∀ M, gIx (eBall m r) (.int 2) M = some (eF r, M) := fun _ => rfl
  rw [e_ball_of _ rfl]
  unfold b_ball_of
  simp only [↓ev_V, ↓ev_C, ↓ev_O, ↓ev_U, ↓ev_Nil, ↓ev_Cons, ↓ev_L, ↓ev_If, ↓ev_tV, ↓ev_tTr, ↓ev_tAn, ↓ev_tOr, ↓ev_tNo, ↓ev_NotB, ↓ev_AnB, ↓ev_OrB, ↓ev_Tup, ↓ev_Lst, ↓ev_CP, ↓ev_ML, ↓ev_Sli, ↓ev_oN, ↓ev_oS, ↓ev_Ch, ↓ev_gN, ↓ev_gsNil, ↓ev_gsCons, ↓ev_gT, ↓ev_Seq, ↓ev_Asg, ↓ev_Par, ↓ev_Ret, ↓ev_Drop, ↓ev_sIf, ↓ev_Next, ↓ev_Brk, ↓ev_Cont, ↓ev_RetN, ↓ev_Sub, ↓ev_For, ↓ev_body, ↓ev_iE, ↓ev_iR1, ↓ev_iR2, ↓ev_iZ, ↓ev_iEn, ↓ev_item, ↓ev_Lc, ↓ev_Yes, ↓ev_Par3, ↓ev_As2, ↓ev_As4, ↓ev_CV, ↓ev_Fld, ↓ev_Mk, ↓ev_Mk0, ↓ev_Mt, ↓ev_ForM, ↓ev_bodyM, ↓ev_gTmT, ↓ev_gTmR, ↓ev_AsgM, ↓ev_Star, ↓ev_Dc, ↓ev_iRv, kForM_e, kAsgM_e, kSt1_e, kSt2_e, kSt3_e, seqT, seqRf, popRf, insRf, inE, notInE, kDc_e, kRv_e, revT, revL, vOf_e, kO_e, kO2_e, kU_e, kCons_e, kCons2_e, kL_e, kIf_t, kIf_f, kB_e, kTr_e, kTr2_e, kAn_t, kAn_f, kOr_t, kOr_f, kNo_e, kNotB_e, kAnB_t, kAnB_f, kOrB_t, kOrB_f, kTup_e, kLst_e, kCP_e, kD_e, kML_e, kML2_e, kS1_e, kS2_e, kS3_e, kI_e, kCh1_e, kCh2_e, kCh3_t, kCh3_f, kAsg_e, kNx_e, kRet_e, kDrop_e, kSif_t, kSif_f, kSub1_e, kSub2_e, kSub3_e, kNxM_e, kFor_e, kBody_e, kIE_e, kSrc_e, kR1_e, kR2_e, kR2b_e, kZ1_e, kZ2_e, kEn_e, kMap_e, kMap2_e, kIt1_e, kIt2_t, kIt2_f, kSome_e, kLc_e, kLc2_e, kGc_e, par3_e, kAs2_e, kAs3_e, kAs4_e, kAs5_e, kAs6_e, fnOf2_e, fnV_e, kCV_e, kFld1_e, kFld2_e, kMk_e, kMk2_e, kMt_e, kMt2_e, kMt3_e, gFldE, setFE, metE, insAt_zero, insAt_succ, ob_s, ob_n, then_nx, then_rt, then_bk, then_ct, par2_e, turn_nx, turn_ct, turn_bk, turn_rt, runT_nil, runT_cons, mapT_nil, mapT_cons, finP_nx, finM_rt, finM_nx, addE, subE, negE, cmpE, ixT, truI, truB, at0, at1, at2, at3, List.getElem?_cons_zero, List.getElem?_cons_succ, List.set_cons_zero, List.set_cons_succ, List.length_cons, List.length_nil, Nat.reduceAdd, Nat.reduceLeDiff, if_true, if_false, reduceIte, reduceCtorEq, id_eq, Bool.not_true, Bool.not_false, Bool.false_eq_true, and_self, Int.reduceLE, Int.reduceLT, Int.reduceNeg, decide_true, decide_false, Option.toList_some, Option.toList_none, List.cons_append, List.nil_append, ixRf, tupRf, lenRf, listRf, isLstRf, appRf, revRf, setRf, itemsRf, itemsT, itemsL, zipT, zipRf, allRf, anyRf, sumRf, tupT, slRf, isiE, t2E, lenT, lstAt_zero, lstAt_succ, Option.isSome_some, Nat.reduceLT, Bool.or_true, Bool.or_false, Bool.true_or, Bool.false_or, gIsN, gNotN, D.isNon, wipeD, i1, i2, i3, j1, j2, tu, sm]
  exact finP_rt _ _ rfl
include hp hw
theorem half_any {f : P3} {c : Rat} (hf : f.B 20) (hc : Rb 20 c) : m_leaf_stretch [eLeafN nm (eHalf f c) t s, .tup [eP p, eP w]] = some (halfD ((t.app f).dot w) (c + (t.app f).dot s - (t.app f).dot p)) := by
  have s1 := slabs_half' (nm := nm) ht hs hf hc
  have hb := ht.app hf
  have s2 := slab_half' hb (hc.add (Rb.dot hb hs)) hp hw (by decide) (by decide) (by decide) (by decide)
  have hx : ∀ s l : Rat, halfD s l = .non ∨ (∃ a b c d, halfD s l = .tup [a, b, c, d] ∧ (a = .non ∨ b = .non) ∧ (a = .non → c = .non) ∧ (b = .non → d = .non) ∧ D.isNon a = (match a with | .non => true | _ => false)) := fun s l => by
    unfold halfD
    split
    · split
      · exact .inr ⟨_, _, _, _, rfl, .inl rfl, fun _ => rfl, fun _ => rfl, rfl⟩
      · exact .inl rfl
    · split
      · exact .inr ⟨_, _, _, _, rfl, .inl rfl, fun _ => rfl, (fun z => by cases z), rfl⟩
      · exact .inr ⟨_, _, _, _, rfl, .inr rfl, (fun z => by cases z), fun _ => rfl, rfl⟩
  generalize t.app f = g at *
  have hlo : ∀ a b : Rat, D.lo 0 (halfD a b) = true := fun a b => by
    unfold halfD
    split
    · split <;> rfl
    · split <;> rfl
  have hm := met_one (hx (g.dot w) (c + g.dot s - g.dot p)) (.lst [.tup [eP g, .non, eF (c + g.dot s), .non, .int 0]]) 2
  have i1 : ∀ M, gIx (eLeafN nm (eHalf f c) t s) (.int 1) M = some (eHalf f c, M) := fun _ => rfl
  have j0 : ∀ M, gIx (eHalf f c) (.int 0) M = some (.str "half", M) := fun _ => rfl
  have gg : ([.lst [.tup [eP g, .non, eF (c + g.dot s), .non, .int 0]]] : Mem)[0]? = some (.lst [.tup [eP g, .non, eF (c + g.dot s), .non, .int 0]]) := rfl
  rw [e_leaf_stretch _ _ rfl]
  unfold b_leaf_stretch
  simp only [↓ev_V, ↓ev_C, ↓ev_O, ↓ev_U, ↓ev_Nil, ↓ev_Cons, ↓ev_L, ↓ev_If, ↓ev_tV, ↓ev_tTr, ↓ev_tAn, ↓ev_tOr, ↓ev_tNo, ↓ev_NotB, ↓ev_AnB, ↓ev_OrB, ↓ev_Tup, ↓ev_Lst, ↓ev_CP, ↓ev_ML, ↓ev_Sli, ↓ev_oN, ↓ev_oS, ↓ev_Ch, ↓ev_gN, ↓ev_gsNil, ↓ev_gsCons, ↓ev_gT, ↓ev_Seq, ↓ev_Asg, ↓ev_Par, ↓ev_Ret, ↓ev_Drop, ↓ev_sIf, ↓ev_Next, ↓ev_Brk, ↓ev_Cont, ↓ev_RetN, ↓ev_Sub, ↓ev_For, ↓ev_body, ↓ev_iE, ↓ev_iR1, ↓ev_iR2, ↓ev_iZ, ↓ev_iEn, ↓ev_item, ↓ev_Lc, ↓ev_Yes, ↓ev_Par3, ↓ev_As2, ↓ev_As4, ↓ev_CV, ↓ev_Fld, ↓ev_Mk, ↓ev_Mk0, ↓ev_Mt, ↓ev_ForM, ↓ev_bodyM, ↓ev_gTmT, ↓ev_gTmR, ↓ev_AsgM, ↓ev_Star, ↓ev_Dc, ↓ev_iRv, kForM_e, kAsgM_e, kSt1_e, kSt2_e, kSt3_e, seqT, seqRf, popRf, insRf, inE, notInE, kDc_e, kRv_e, revT, revL, vOf_e, kO_e, kO2_e, kU_e, kCons_e, kCons2_e, kL_e, kIf_t, kIf_f, kB_e, kTr_e, kTr2_e, kAn_t, kAn_f, kOr_t, kOr_f, kNo_e, kNotB_e, kAnB_t, kAnB_f, kOrB_t, kOrB_f, kTup_e, kLst_e, kCP_e, kD_e, kML_e, kML2_e, kS1_e, kS2_e, kS3_e, kI_e, kCh1_e, kCh2_e, kCh3_t, kCh3_f, kAsg_e, kNx_e, kRet_e, kDrop_e, kSif_t, kSif_f, kSub1_e, kSub2_e, kSub3_e, kNxM_e, kFor_e, kBody_e, kIE_e, kSrc_e, kR1_e, kR2_e, kR2b_e, kZ1_e, kZ2_e, kEn_e, kMap_e, kMap2_e, kIt1_e, kIt2_t, kIt2_f, kSome_e, kLc_e, kLc2_e, kGc_e, par3_e, kAs2_e, kAs3_e, kAs4_e, kAs5_e, kAs6_e, fnOf2_e, fnV_e, kCV_e, kFld1_e, kFld2_e, kMk_e, kMk2_e, kMt_e, kMt2_e, kMt3_e, gFldE, setFE, metE, insAt_zero, insAt_succ, ob_s, ob_n, then_nx, then_rt, then_bk, then_ct, par2_e, turn_nx, turn_ct, turn_bk, turn_rt, runT_nil, runT_cons, mapT_nil, mapT_cons, finP_nx, finM_rt, finM_nx, addE, subE, negE, cmpE, ixT, truI, truB, at0, at1, at2, at3, List.getElem?_cons_zero, List.getElem?_cons_succ, List.set_cons_zero, List.set_cons_succ, List.length_cons, List.length_nil, Nat.reduceAdd, Nat.reduceLeDiff, if_true, if_false, reduceIte, reduceCtorEq, id_eq, Bool.not_true, Bool.not_false, Bool.false_eq_true, and_self, Int.reduceLE, Int.reduceLT, Int.reduceNeg, decide_true, decide_false, Option.toList_some, Option.toList_none, List.cons_append, List.nil_append, ixRf, tupRf, lenRf, listRf, isLstRf, appRf, revRf, setRf, itemsRf, itemsT, itemsL, zipT, zipRf, allRf, anyRf, sumRf, tupT, slRf, isiE, t2E, lenT, lstAt_zero, lstAt_succ, Option.isSome_some, Nat.reduceLT, Bool.or_true, Bool.or_false, Bool.true_or, Bool.false_or, gIsN, gNotN, D.isNon, wipeD, i1, j0, eq_hb, s1, mapL_cons gg, mapL_nil gg, s2, hm]
  exact finP_rt _ _ (hlo _ _)
theorem ball_any {m : P3} {r : Rat} (hm : m.B 20) (hr : Rb 20 r) (hz : w.dot w ≠ 0) : m_leaf_stretch [eLeafN nm (eBall m r) t s, .tup [eP p, eP w]] = some (ballD (w.dot w) (w.dot (p.sub ((t.app m).add s))) (ballN w (p.sub ((t.app m).add s)) r)) := by
  have o := ball_of' (nm := nm) (r := r) ht hs hm
  have hb := (ht.app hm).add hs
  generalize (t.app m).add s = y at *
  have wb := way_between_e hb hp (by decide)
  have hv := hp.sub hb
  have t1 := dot_e hw hw (by decide)
  have t2 := dot_e hw hv (by decide)
  have t3 := dot_e hv hv (by decide)
  have r1 := Rb.dot hw hw
  have r2 := Rb.dot hw hv
  have r3 := Rb.dot hv hv
  have t4 := times_e hr hr (by decide)
  have r4 := hr.mul hr
  have t5 := minus_e r3 r4 (by decide)
  have r5 := r3.sub r4
  have t6 := times_e r1 r5 (by decide)
  have r6 := r1.mul r5
  have t7 := times_e r2 r2 (by decide)
  have r7 := r2.mul r2
  have t8 := minus_e r7 r6 (by decide)
  have t9 := minus_e (rb_one (n := 1) (by decide)) r2 (by decide)
  have r9 := (rb_one (n := 1) (by decide)).sub r2
  have v1 := over_e r9 r1 (by decide) hz
  have v2 := over_e rb_ones.1 r1 (by decide) hz
  have v3 := over_e rb_ones.2 r1 (by decide) hz
  have n1 : -1 / w.dot w = 0 - 1 / w.dot w := by
    rw [Rat.div_def, Rat.div_def]
    grind
  rw [n1] at v3
  rw [show w.dot (p.sub y) * w.dot (p.sub y) - w.dot w * ((p.sub y).dot (p.sub y) - r * r) = ballN w (p.sub y) r from rfl] at t8
  have i1 : ∀ M, gIx (eLeafN nm (eBall m r) t s) (.int 1) M = some (eBall m r, M) := fun _ => rfl
  have j0 : ∀ M, gIx (eBall m r) (.int 0) M = some (.str "ball", M) := fun _ => rfl
  have le : ∀ q : Rat, (sgn q ≤ 0) = ¬ (0 < q) := fun q => by
    rw [← sgn_gt]
    exact propext ⟨fun z => by omega, fun z => by omega⟩
  have st : m_ball_stretch [eLeafN nm (eBall m r) t s, .tup [eP p, eP w]] = some (ballD (w.dot w) (w.dot (p.sub y)) (ballN w (p.sub y) r)) := by
    rw [e_ball_stretch _ _ rfl]
    unfold b_ball_stretch ballD
    generalize ballN w (p.sub y) r = z at *
    by_cases hd : 0 < z
    · rw [if_pos hd]
      simp only [↓ev_V, ↓ev_C, ↓ev_O, ↓ev_U, ↓ev_Nil, ↓ev_Cons, ↓ev_L, ↓ev_If, ↓ev_tV, ↓ev_tTr, ↓ev_tAn, ↓ev_tOr, ↓ev_tNo, ↓ev_NotB, ↓ev_AnB, ↓ev_OrB, ↓ev_Tup, ↓ev_Lst, ↓ev_CP, ↓ev_ML, ↓ev_Sli, ↓ev_oN, ↓ev_oS, ↓ev_Ch, ↓ev_gN, ↓ev_gsNil, ↓ev_gsCons, ↓ev_gT, ↓ev_Seq, ↓ev_Asg, ↓ev_Par, ↓ev_Ret, ↓ev_Drop, ↓ev_sIf, ↓ev_Next, ↓ev_Brk, ↓ev_Cont, ↓ev_RetN, ↓ev_Sub, ↓ev_For, ↓ev_body, ↓ev_iE, ↓ev_iR1, ↓ev_iR2, ↓ev_iZ, ↓ev_iEn, ↓ev_item, ↓ev_Lc, ↓ev_Yes, ↓ev_Par3, ↓ev_As2, ↓ev_As4, ↓ev_CV, ↓ev_Fld, ↓ev_Mk, ↓ev_Mk0, ↓ev_Mt, ↓ev_ForM, ↓ev_bodyM, ↓ev_gTmT, ↓ev_gTmR, ↓ev_AsgM, ↓ev_Star, ↓ev_Dc, ↓ev_iRv, kForM_e, kAsgM_e, kSt1_e, kSt2_e, kSt3_e, seqT, seqRf, popRf, insRf, inE, notInE, kDc_e, kRv_e, revT, revL, vOf_e, kO_e, kO2_e, kU_e, kCons_e, kCons2_e, kL_e, kIf_t, kIf_f, kB_e, kTr_e, kTr2_e, kAn_t, kAn_f, kOr_t, kOr_f, kNo_e, kNotB_e, kAnB_t, kAnB_f, kOrB_t, kOrB_f, kTup_e, kLst_e, kCP_e, kD_e, kML_e, kML2_e, kS1_e, kS2_e, kS3_e, kI_e, kCh1_e, kCh2_e, kCh3_t, kCh3_f, kAsg_e, kNx_e, kRet_e, kDrop_e, kSif_t, kSif_f, kSub1_e, kSub2_e, kSub3_e, kNxM_e, kFor_e, kBody_e, kIE_e, kSrc_e, kR1_e, kR2_e, kR2b_e, kZ1_e, kZ2_e, kEn_e, kMap_e, kMap2_e, kIt1_e, kIt2_t, kIt2_f, kSome_e, kLc_e, kLc2_e, kGc_e, par3_e, kAs2_e, kAs3_e, kAs4_e, kAs5_e, kAs6_e, fnOf2_e, fnV_e, kCV_e, kFld1_e, kFld2_e, kMk_e, kMk2_e, kMt_e, kMt2_e, kMt3_e, gFldE, setFE, metE, insAt_zero, insAt_succ, ob_s, ob_n, then_nx, then_rt, then_bk, then_ct, par2_e, turn_nx, turn_ct, turn_bk, turn_rt, runT_nil, runT_cons, mapT_nil, mapT_cons, finP_nx, finM_rt, finM_nx, addE, subE, negE, cmpE, ixT, truI, truB, at0, at1, at2, at3, List.getElem?_cons_zero, List.getElem?_cons_succ, List.set_cons_zero, List.set_cons_succ, List.length_cons, List.length_nil, Nat.reduceAdd, Nat.reduceLeDiff, if_true, if_false, reduceIte, reduceCtorEq, id_eq, Bool.not_true, Bool.not_false, Bool.false_eq_true, and_self, Int.reduceLE, Int.reduceLT, Int.reduceNeg, decide_true, decide_false, Option.toList_some, Option.toList_none, List.cons_append, List.nil_append, ixRf, tupRf, lenRf, listRf, isLstRf, appRf, revRf, setRf, itemsRf, itemsT, itemsL, zipT, zipRf, allRf, anyRf, sumRf, tupT, slRf, isiE, t2E, lenT, lstAt_zero, lstAt_succ, Option.isSome_some, Nat.reduceLT, Bool.or_true, Bool.or_false, Bool.true_or, Bool.false_or, gIsN, gNotN, D.isNon, wipeD, o, wb, t1, t2, t3, t4, t5, t6, t7, t8, sg_e, le, decide_eq_false (not_not_intro hd), eF0, eF1, eFm1, t9, v1, v2, v3]
      exact finP_rt _ _ rfl
    · rw [if_neg hd]
      simp only [↓ev_V, ↓ev_C, ↓ev_O, ↓ev_U, ↓ev_Nil, ↓ev_Cons, ↓ev_L, ↓ev_If, ↓ev_tV, ↓ev_tTr, ↓ev_tAn, ↓ev_tOr, ↓ev_tNo, ↓ev_NotB, ↓ev_AnB, ↓ev_OrB, ↓ev_Tup, ↓ev_Lst, ↓ev_CP, ↓ev_ML, ↓ev_Sli, ↓ev_oN, ↓ev_oS, ↓ev_Ch, ↓ev_gN, ↓ev_gsNil, ↓ev_gsCons, ↓ev_gT, ↓ev_Seq, ↓ev_Asg, ↓ev_Par, ↓ev_Ret, ↓ev_Drop, ↓ev_sIf, ↓ev_Next, ↓ev_Brk, ↓ev_Cont, ↓ev_RetN, ↓ev_Sub, ↓ev_For, ↓ev_body, ↓ev_iE, ↓ev_iR1, ↓ev_iR2, ↓ev_iZ, ↓ev_iEn, ↓ev_item, ↓ev_Lc, ↓ev_Yes, ↓ev_Par3, ↓ev_As2, ↓ev_As4, ↓ev_CV, ↓ev_Fld, ↓ev_Mk, ↓ev_Mk0, ↓ev_Mt, ↓ev_ForM, ↓ev_bodyM, ↓ev_gTmT, ↓ev_gTmR, ↓ev_AsgM, ↓ev_Star, ↓ev_Dc, ↓ev_iRv, kForM_e, kAsgM_e, kSt1_e, kSt2_e, kSt3_e, seqT, seqRf, popRf, insRf, inE, notInE, kDc_e, kRv_e, revT, revL, vOf_e, kO_e, kO2_e, kU_e, kCons_e, kCons2_e, kL_e, kIf_t, kIf_f, kB_e, kTr_e, kTr2_e, kAn_t, kAn_f, kOr_t, kOr_f, kNo_e, kNotB_e, kAnB_t, kAnB_f, kOrB_t, kOrB_f, kTup_e, kLst_e, kCP_e, kD_e, kML_e, kML2_e, kS1_e, kS2_e, kS3_e, kI_e, kCh1_e, kCh2_e, kCh3_t, kCh3_f, kAsg_e, kNx_e, kRet_e, kDrop_e, kSif_t, kSif_f, kSub1_e, kSub2_e, kSub3_e, kNxM_e, kFor_e, kBody_e, kIE_e, kSrc_e, kR1_e, kR2_e, kR2b_e, kZ1_e, kZ2_e, kEn_e, kMap_e, kMap2_e, kIt1_e, kIt2_t, kIt2_f, kSome_e, kLc_e, kLc2_e, kGc_e, par3_e, kAs2_e, kAs3_e, kAs4_e, kAs5_e, kAs6_e, fnOf2_e, fnV_e, kCV_e, kFld1_e, kFld2_e, kMk_e, kMk2_e, kMt_e, kMt2_e, kMt3_e, gFldE, setFE, metE, insAt_zero, insAt_succ, ob_s, ob_n, then_nx, then_rt, then_bk, then_ct, par2_e, turn_nx, turn_ct, turn_bk, turn_rt, runT_nil, runT_cons, mapT_nil, mapT_cons, finP_nx, finM_rt, finM_nx, addE, subE, negE, cmpE, ixT, truI, truB, at0, at1, at2, at3, List.getElem?_cons_zero, List.getElem?_cons_succ, List.set_cons_zero, List.set_cons_succ, List.length_cons, List.length_nil, Nat.reduceAdd, Nat.reduceLeDiff, if_true, if_false, reduceIte, reduceCtorEq, id_eq, Bool.not_true, Bool.not_false, Bool.false_eq_true, and_self, Int.reduceLE, Int.reduceLT, Int.reduceNeg, decide_true, decide_false, Option.toList_some, Option.toList_none, List.cons_append, List.nil_append, ixRf, tupRf, lenRf, listRf, isLstRf, appRf, revRf, setRf, itemsRf, itemsT, itemsL, zipT, zipRf, allRf, anyRf, sumRf, tupT, slRf, isiE, t2E, lenT, lstAt_zero, lstAt_succ, Option.isSome_some, Nat.reduceLT, Bool.or_true, Bool.or_false, Bool.true_or, Bool.false_or, gIsN, gNotN, D.isNon, wipeD, o, wb, t1, t2, t3, t4, t5, t6, t7, t8, sg_e, le, decide_eq_true hd]
      exact finP_rt _ _ rfl
  have hlo : D.lo 0 (ballD (w.dot w) (w.dot (p.sub y)) (ballN w (p.sub y) r)) = true := by
    unfold ballD
    split <;> rfl
  rw [e_leaf_stretch _ _ rfl]
  unfold b_leaf_stretch
  simp only [↓ev_V, ↓ev_C, ↓ev_O, ↓ev_U, ↓ev_Nil, ↓ev_Cons, ↓ev_L, ↓ev_If, ↓ev_tV, ↓ev_tTr, ↓ev_tAn, ↓ev_tOr, ↓ev_tNo, ↓ev_NotB, ↓ev_AnB, ↓ev_OrB, ↓ev_Tup, ↓ev_Lst, ↓ev_CP, ↓ev_ML, ↓ev_Sli, ↓ev_oN, ↓ev_oS, ↓ev_Ch, ↓ev_gN, ↓ev_gsNil, ↓ev_gsCons, ↓ev_gT, ↓ev_Seq, ↓ev_Asg, ↓ev_Par, ↓ev_Ret, ↓ev_Drop, ↓ev_sIf, ↓ev_Next, ↓ev_Brk, ↓ev_Cont, ↓ev_RetN, ↓ev_Sub, ↓ev_For, ↓ev_body, ↓ev_iE, ↓ev_iR1, ↓ev_iR2, ↓ev_iZ, ↓ev_iEn, ↓ev_item, ↓ev_Lc, ↓ev_Yes, ↓ev_Par3, ↓ev_As2, ↓ev_As4, ↓ev_CV, ↓ev_Fld, ↓ev_Mk, ↓ev_Mk0, ↓ev_Mt, ↓ev_ForM, ↓ev_bodyM, ↓ev_gTmT, ↓ev_gTmR, ↓ev_AsgM, ↓ev_Star, ↓ev_Dc, ↓ev_iRv, kForM_e, kAsgM_e, kSt1_e, kSt2_e, kSt3_e, seqT, seqRf, popRf, insRf, inE, notInE, kDc_e, kRv_e, revT, revL, vOf_e, kO_e, kO2_e, kU_e, kCons_e, kCons2_e, kL_e, kIf_t, kIf_f, kB_e, kTr_e, kTr2_e, kAn_t, kAn_f, kOr_t, kOr_f, kNo_e, kNotB_e, kAnB_t, kAnB_f, kOrB_t, kOrB_f, kTup_e, kLst_e, kCP_e, kD_e, kML_e, kML2_e, kS1_e, kS2_e, kS3_e, kI_e, kCh1_e, kCh2_e, kCh3_t, kCh3_f, kAsg_e, kNx_e, kRet_e, kDrop_e, kSif_t, kSif_f, kSub1_e, kSub2_e, kSub3_e, kNxM_e, kFor_e, kBody_e, kIE_e, kSrc_e, kR1_e, kR2_e, kR2b_e, kZ1_e, kZ2_e, kEn_e, kMap_e, kMap2_e, kIt1_e, kIt2_t, kIt2_f, kSome_e, kLc_e, kLc2_e, kGc_e, par3_e, kAs2_e, kAs3_e, kAs4_e, kAs5_e, kAs6_e, fnOf2_e, fnV_e, kCV_e, kFld1_e, kFld2_e, kMk_e, kMk2_e, kMt_e, kMt2_e, kMt3_e, gFldE, setFE, metE, insAt_zero, insAt_succ, ob_s, ob_n, then_nx, then_rt, then_bk, then_ct, par2_e, turn_nx, turn_ct, turn_bk, turn_rt, runT_nil, runT_cons, mapT_nil, mapT_cons, finP_nx, finM_rt, finM_nx, addE, subE, negE, cmpE, ixT, truI, truB, at0, at1, at2, at3, List.getElem?_cons_zero, List.getElem?_cons_succ, List.set_cons_zero, List.set_cons_succ, List.length_cons, List.length_nil, Nat.reduceAdd, Nat.reduceLeDiff, if_true, if_false, reduceIte, reduceCtorEq, id_eq, Bool.not_true, Bool.not_false, Bool.false_eq_true, and_self, Int.reduceLE, Int.reduceLT, Int.reduceNeg, decide_true, decide_false, Option.toList_some, Option.toList_none, List.cons_append, List.nil_append, ixRf, tupRf, lenRf, listRf, isLstRf, appRf, revRf, setRf, itemsRf, itemsT, itemsL, zipT, zipRf, allRf, anyRf, sumRf, tupT, slRf, isiE, t2E, lenT, lstAt_zero, lstAt_succ, Option.isSome_some, Nat.reduceLT, Bool.or_true, Bool.or_false, Bool.true_or, Bool.false_or, gIsN, gNotN, D.isNon, wipeD, i1, j0, eq_bb, st]
  exact finP_rt _ _ hlo
/-- what a leaf leaves of a ray -/
def leafD (F : Fm) (t : T3) (s p w : P3) : D := match F with
  | .box lo hi => boxD no3 s lo hi p w t.cols
  | .half f c => halfD ((t.app f).dot w) (c + (t.app f).dot s - (t.app f).dot p)
  | .ball m r => ballD (w.dot w) (w.dot (p.sub ((t.app m).add s))) (ballN w (p.sub ((t.app m).add s)) r)
theorem leaf_any {F : Fm} (hF : F.B 20) (hz : w.dot w ≠ 0) : m_leaf_stretch [eLeafN nm (eFm F) t s, .tup [eP p, eP w]] = some (leafD F t s p w) := by
  cases F with
  | box lo hi => exact box_e ht hp hw hF.1 hF.2 hs (by decide) (by decide) (by decide) (by decide) (by decide)
  | half f c => exact half_any ht hs hp hw hF.1 hF.2
  | ball m r => exact ball_any ht hs hp hw hF.1 hF.2 hz
end

/-! ### turns that keep dots; sizes of their parts -/
def T3.mul (A B : T3) : T3 := ⟨B.cols.app A.a, B.cols.app A.b, B.cols.app A.c⟩
def T3.Ort (t : T3) : Prop := ∀ x y : P3, (t.app x).dot (t.app y) = x.dot y
theorem mul_app (A B : T3) (x : P3) : (A.mul B).app x = A.app (B.app x) := by
  simp only [T3.app, T3.mul, T3.cols, P3.dot, P3.mk.injEq]
  refine ⟨?_, ?_, ?_⟩ <;> grind
theorem T3.Ort.mul {A B : T3} (h : A.Ort) (k : B.Ort) : (A.mul B).Ort := fun x y => by rw [mul_app, mul_app, h, k]
theorem id3_ort : id3.Ort := fun x y => by rw [id3_app, id3_app]
theorem col_app (t : T3) (x : P3) : t.cols.a = t.app ⟨1, 0, 0⟩ ∧ t.cols.b = t.app ⟨0, 1, 0⟩ ∧ t.cols.c = t.app ⟨0, 0, 1⟩ := by
  simp only [T3.app, T3.cols, P3.dot, P3.mk.injEq]
  refine ⟨⟨?_, ?_, ?_⟩, ⟨?_, ?_, ?_⟩, ⟨?_, ?_, ?_⟩⟩ <;> grind
theorem dot_add (x y z : P3) : x.dot (y.add z) = x.dot y + x.dot z := by
  simp only [P3.dot, P3.add]
  grind
theorem app_sub (t : T3) (x y : P3) : (t.app x).sub (t.app y) = t.app (x.sub y) := by
  simp only [T3.app, P3.sub, P3.dot, P3.mk.injEq]
  refine ⟨?_, ?_, ?_⟩ <;> grind
theorem add_sub_add (x y z : P3) : (x.add z).sub (y.add z) = x.sub y := by
  simp only [P3.add, P3.sub, P3.mk.injEq]
  refine ⟨?_, ?_, ?_⟩ <;> grind
theorem app_add (t : T3) (x y : P3) : t.app (x.add y) = (t.app x).add (t.app y) := by
  simp only [T3.app, P3.add, P3.dot, P3.mk.injEq]
  refine ⟨?_, ?_, ?_⟩ <;> grind
theorem add_assoc3 (x y z : P3) : (x.add y).add z = x.add (y.add z) := by
  simp only [P3.add, P3.mk.injEq]
  refine ⟨?_, ?_, ?_⟩ <;> grind
/-- a leaf that is carried along with its ray -/
theorem leaf_carried (F : Fm) {t : T3} (h : t.Ort) (s p w : P3) : leafD F t s ((t.app p).add s) (t.app w) = leafD F id3 no3 p w := by
  cases F with
  | box lo hi =>
    show boxD no3 s lo hi _ _ t.cols = boxD no3 no3 lo hi p w id3.cols
    obtain ⟨c1, c2, c3⟩ := col_app t p
    have f : ∀ a x y : Rat, a + x - (y + x) = a - y := fun a x y => by grind
    have e1 : ∀ v : P3, t.cols.a.dot (t.app v) = v.x := fun v => by
      rw [c1, h]
      simp only [P3.dot]
      grind
    have e2 : ∀ v : P3, t.cols.b.dot (t.app v) = v.y := fun v => by
      rw [c2, h]
      simp only [P3.dot]
      grind
    have e3 : ∀ v : P3, t.cols.c.dot (t.app v) = v.z := fun v => by
      rw [c3, h]
      simp only [P3.dot]
      grind
    rw [box_id]
    unfold boxD
    rw [dot_add, dot_add, dot_add, e1, e1, e2, e2, e3, e3, f, f, f, f, f, f]
  | half f c =>
    show halfD _ _ = halfD _ _
    rw [id3_app, dot_add, h, h, dot_no3]
    congr 1
    grind
  | ball m r =>
    show ballD _ _ _ = ballD _ _ _
    rw [add_sub_add, app_sub, h, h, id3_app, add_no3]
    unfold ballN
    rw [h, h, h]
def T3.F (d n : Nat) (t : T3) : Prop := t.a.F d n ∧ t.b.F d n ∧ t.c.F d n
theorem P3.F.rb {d n b : Nat} {p : P3} (h : p.F d n) (hd : 0 < d) (h1 : d < 2 ^ b) (h2 : n < 2 ^ b) : p.B b := ⟨h.1.rb hd h1 h2, h.2.1.rb hd h1 h2, h.2.2.rb hd h1 h2⟩
theorem T3.F.rb {d n b : Nat} {p : T3} (h : p.F d n) (hd : 0 < d) (h1 : d < 2 ^ b) (h2 : n < 2 ^ b) : p.B b := ⟨h.1.rb hd h1 h2, h.2.1.rb hd h1 h2, h.2.2.rb hd h1 h2⟩
theorem P3.F.mono {d m n : Nat} {p : P3} (h : p.F d m) (hn : m ≤ n) : p.F d n := ⟨h.1.mono hn, h.2.1.mono hn, h.2.2.mono hn⟩
theorem P3.F.up {d m e : Nat} {p : P3} (h : p.F d m) (he : 0 < e) : p.F (d * e) (m * e) := ⟨h.1.up he, h.2.1.up he, h.2.2.up he⟩
theorem T3.F.up {d m e : Nat} {p : T3} (h : p.F d m) (he : 0 < e) : p.F (d * e) (m * e) := ⟨h.1.up he, h.2.1.up he, h.2.2.up he⟩
theorem T3.F.mono {d m n : Nat} {p : T3} (h : p.F d m) (hn : m ≤ n) : p.F d n := ⟨h.1.mono hn, h.2.1.mono hn, h.2.2.mono hn⟩
theorem Fx.dot {d e m n : Nat} (hd : 0 < d) (he : 0 < e) {p q : P3} (h : p.F d m) (k : q.F e n) : Fx (d * e) (3 * (m * n)) (p.dot q) :=
  (((h.1.mul k.1).add (Nat.mul_pos hd he) (h.2.1.mul k.2.1)).add (Nat.mul_pos hd he) (h.2.2.mul k.2.2)).mono (by omega)
theorem T3.F.cols {d n : Nat} {t : T3} (h : t.F d n) : t.cols.F d n := ⟨⟨h.1.1, h.2.1.1, h.2.2.1⟩, ⟨h.1.2.1, h.2.1.2.1, h.2.2.2.1⟩, ⟨h.1.2.2, h.2.1.2.2, h.2.2.2.2⟩⟩
theorem T3.F.app {d e m n : Nat} (hd : 0 < d) (he : 0 < e) {t : T3} {q : P3} (h : t.F d m) (k : q.F e n) : (t.app q).F (d * e) (3 * (m * n)) := ⟨Fx.dot hd he h.1 k, Fx.dot hd he h.2.1 k, Fx.dot hd he h.2.2 k⟩
theorem T3.F.mul {d e m n : Nat} (hd : 0 < d) (he : 0 < e) {A B : T3} (h : A.F d m) (k : B.F e n) : (A.mul B).F (e * d) (3 * (n * m)) := ⟨T3.F.app he hd k.cols h.1, T3.F.app he hd k.cols h.2.1, T3.F.app he hd k.cols h.2.2⟩
theorem P3.F.add {d m n : Nat} (hd : 0 < d) {p q : P3} (h : p.F d m) (k : q.F d n) : (p.add q).F d (m + n) := ⟨h.1.add hd k.1, h.2.1.add hd k.2.1, h.2.2.add hd k.2.2⟩
theorem fx_int (n : Nat) (i : Int) (h : i.natAbs ≤ n) : Fx 1 n (i : Rat) := ⟨i, h, by rw [Rat.divInt_eq_div]; grind⟩

/-! ### forms drawn -/
def Fm.Ok : Fm → Prop
  | .box lo hi => lo.x < hi.x ∧ lo.y < hi.y ∧ lo.z < hi.z
  | .half f _ => f.ne
  | .ball _ r => 0 < r
theorem fr_small {u v : Int} {m n : Int} (hm : m ≤ 9) (hn : n ≤ 9) (p1 : 0 ≤ u) (q1 : u < m) (p2 : 0 ≤ v) (q2 : v < n) : m__law_fr [.int (1 + u), .int (1 + v)] = some (eF (Rat.divInt (1 + u) (1 + v))) ∧ Rb 4 (Rat.divInt (1 + u) (1 + v)) ∧ 0 < Rat.divInt (1 + u) (1 + v) :=
  ⟨fr_e (by omega) ((bt_abs (m := 15) (by omega) (by omega)).mono (by decide)), rb_div (by omega) (bt_abs (by omega) (by omega)) (bt_abs (by omega) (by omega)), divInt_pos (by omega) (by omega)⟩
theorem zipL (p : P3) (l : Nat) (M : Mem) : zipOf (eP p) (.rf l) M = ob (lstAt M l) fun es => some (pairs [eF p.x, eF p.y, eF p.z] es, fun M' => M'[l]? = some (.lst es)) := by
  show zipOf (.tup [eF p.x, eF p.y, eF p.z]) (.rf l) M = _
  simp only [zipOf, lstAt, ob]
  cases M[l]? with
  | none => rfl
  | some c => cases c <;> rfl
theorem eq_ib (M : Mem) (i j : Int) : gEq (.int i) (.int j) M = some (.bl (i == j), M) := eqIb i j M
theorem form_w {k : Dk6} (h : k.Ok) {b : Nat} {d : Ds} (hd : d.O3 (b + 15)) {rest : Mem} (hr : rest.all (Cell.lo 0) = true) : W (m__law_form [.rf k.s] (k.M d ++ rest)) fun y => ∃ F d', Ds.O3 b d' ∧ F.B 20 ∧ F.Ok ∧ y = (eFm F, k.M d' ++ rest) := by
  obtain ⟨v, d1, o1, v1, v2, e1⟩ := h.pk (b := b + 14) hd (n := 5) (by decide) (by decide)
  have L : ∀ d, List.length (k.M d) = k.B.length := fun d => Dk6.len
  have zA := fun d X i => atB (rest := rest) (L d) X i
  have z0 := fun d X => atB0 (rest := rest) (L d) X
  have gA := fun d X i => getB (rest := rest) (L d) X i
  have g0 := fun d X => getB0 (rest := rest) (L d) X
  rw [e__law_form]
  unfold b__law_form
  by_cases c1 : v < 2
  · obtain ⟨lo, d2, o2, b2, e2⟩ := point_e h (b := b + 8) o1 (far := 3) (by decide) (by decide)
    obtain ⟨u1, d3, o3, p3, q3, e3⟩ := h.pk (b := b + 7) o2 (n := 6) (by decide) (by decide)
    obtain ⟨w1, d4, o4, p4, q4, e4⟩ := h.pk (b := b + 6) o3 (n := 2) (by decide) (by decide)
    obtain ⟨u2, d5, o5, p5, q5, e5⟩ := h.pk (b := b + 5) o4 (n := 6) (by decide) (by decide)
    obtain ⟨w2, d6, o6, p6, q6, e6⟩ := h.pk (b := b + 4) o5 (n := 2) (by decide) (by decide)
    obtain ⟨u3, d7, o7, p7, q7, e7⟩ := h.pk (b := b + 3) o6 (n := 6) (by decide) (by decide)
    obtain ⟨w3, d8, o8, p8, q8, e8⟩ := h.pk (b := b + 2) o7 (n := 2) (by decide) (by decide)
    obtain ⟨f1, s1, t1⟩ := fr_small (by decide) (by decide) p3 q3 p4 q4
    obtain ⟨f2, s2, t2⟩ := fr_small (by decide) (by decide) p5 q5 p6 q6
    obtain ⟨f3, s3, t3⟩ := fr_small (by decide) (by decide) p7 q7 p8 q8
    generalize Rat.divInt (1 + u1) (1 + w1) = g1 at *
    generalize Rat.divInt (1 + u2) (1 + w2) = g2 at *
    generalize Rat.divInt (1 + u3) (1 + w3) = g3 at *
    have a1 := ladd_e b2.1 s1 (by decide)
    have a2 := ladd_e b2.2.1 s2 (by decide)
    have a3 := ladd_e b2.2.2 s3 (by decide)
    simp only [↓ev_V, ↓ev_C, ↓ev_O, ↓ev_U, ↓ev_Nil, ↓ev_Cons, ↓ev_L, ↓ev_If, ↓ev_tV, ↓ev_tTr, ↓ev_tAn, ↓ev_tOr, ↓ev_tNo, ↓ev_NotB, ↓ev_AnB, ↓ev_OrB, ↓ev_Tup, ↓ev_Lst, ↓ev_CP, ↓ev_ML, ↓ev_Sli, ↓ev_oN, ↓ev_oS, ↓ev_Ch, ↓ev_gN, ↓ev_gsNil, ↓ev_gsCons, ↓ev_gT, ↓ev_Seq, ↓ev_Asg, ↓ev_Par, ↓ev_Ret, ↓ev_Drop, ↓ev_sIf, ↓ev_Next, ↓ev_Brk, ↓ev_Cont, ↓ev_RetN, ↓ev_Sub, ↓ev_For, ↓ev_body, ↓ev_iE, ↓ev_iR1, ↓ev_iR2, ↓ev_iZ, ↓ev_iEn, ↓ev_item, ↓ev_Lc, ↓ev_Yes, ↓ev_Par3, ↓ev_As2, ↓ev_As4, ↓ev_CV, ↓ev_Fld, ↓ev_Mk, ↓ev_Mk0, ↓ev_Mt, ↓ev_ForM, ↓ev_bodyM, ↓ev_gTmT, ↓ev_gTmR, ↓ev_AsgM, ↓ev_Star, ↓ev_Dc, ↓ev_iRv, kForM_e, kAsgM_e, kSt1_e, kSt2_e, kSt3_e, seqT, seqRf, popRf, insRf, inE, notInE, kDc_e, kRv_e, revT, revL, vOf_e, kO_e, kO2_e, kU_e, kCons_e, kCons2_e, kL_e, kIf_t, kIf_f, kB_e, kTr_e, kTr2_e, kAn_t, kAn_f, kOr_t, kOr_f, kNo_e, kNotB_e, kAnB_t, kAnB_f, kOrB_t, kOrB_f, kTup_e, kLst_e, kCP_e, kD_e, kML_e, kML2_e, kS1_e, kS2_e, kS3_e, kI_e, kCh1_e, kCh2_e, kCh3_t, kCh3_f, kAsg_e, kNx_e, kRet_e, kDrop_e, kSif_t, kSif_f, kSub1_e, kSub2_e, kSub3_e, kNxM_e, kFor_e, kBody_e, kIE_e, kSrc_e, kR1_e, kR2_e, kR2b_e, kZ1_e, kZ2_e, kEn_e, kMap_e, kMap2_e, kIt1_e, kIt2_t, kIt2_f, kSome_e, kLc_e, kLc2_e, kGc_e, par3_e, kAs2_e, kAs3_e, kAs4_e, kAs5_e, kAs6_e, fnOf2_e, fnV_e, kCV_e, kFld1_e, kFld2_e, kMk_e, kMk2_e, kMt_e, kMt2_e, kMt3_e, gFldE, setFE, metE, insAt_zero, insAt_succ, ob_s, ob_n, then_nx, then_rt, then_bk, then_ct, par2_e, turn_nx, turn_ct, turn_bk, turn_rt, runT_nil, runT_cons, mapT_nil, mapT_cons, finP_nx, finM_rt, finM_nx, addE, subE, negE, cmpE, ixT, truI, truB, at0, at1, at2, at3, List.getElem?_cons_zero, List.getElem?_cons_succ, List.set_cons_zero, List.set_cons_succ, List.length_cons, List.length_nil, Nat.reduceAdd, Nat.reduceLeDiff, if_true, if_false, reduceIte, reduceCtorEq, id_eq, Bool.not_true, Bool.not_false, Bool.false_eq_true, and_self, Int.reduceLE, Int.reduceLT, Int.reduceNeg, decide_true, decide_false, Option.toList_some, Option.toList_none, List.cons_append, List.nil_append, ixRf, tupRf, lenRf, listRf, isLstRf, appRf, revRf, setRf, itemsRf, itemsT, itemsL, zipT, zipRf, allRf, anyRf, sumRf, tupT, slRf, isiE, t2E, lenT, lstAt_zero, lstAt_succ, Option.isSome_some, Nat.reduceLT, Bool.or_true, Bool.or_false, Bool.true_or, Bool.false_or, gIsN, gNotN, D.isNon, wipeD, e1, e2 rest hr, e3, e4, e5, e6, e7, e8, decide_eq_true c1, upto3, f1, f2, f3, L, List.append_assoc, List.length_append, z0, zA, zipL, pairs, g0, gA, mapC_cons, mapC_nil, a1, a2, a3]
    rw [gc3 h hr rfl]
    exact W.ret ⟨.box lo ⟨lo.x + g1, lo.y + g2, lo.z + g3⟩, d8, o8.mono (by omega), ⟨b2.mono (by decide), (b2.1.add s1).mono (by decide), (b2.2.1.add s2).mono (by decide), (b2.2.2.add s3).mono (by decide)⟩, ⟨by show lo.x < lo.x + g1; grind, by show lo.y < lo.y + g2; grind, by show lo.z < lo.z + g3; grind⟩, rfl⟩
  · by_cases c2 : v = 2
    · subst c2
      obtain ⟨w, d2, o2, b2, nw, e2⟩ := way_e h (b := b + 3) o1 (far := 2) (by decide) (by decide)
      obtain ⟨q, d3, o3, b3, e3⟩ := num_e h (b := b + 1) o2 (far := 3) (by decide) (by decide)
      simp only [↓ev_V, ↓ev_C, ↓ev_O, ↓ev_U, ↓ev_Nil, ↓ev_Cons, ↓ev_L, ↓ev_If, ↓ev_tV, ↓ev_tTr, ↓ev_tAn, ↓ev_tOr, ↓ev_tNo, ↓ev_NotB, ↓ev_AnB, ↓ev_OrB, ↓ev_Tup, ↓ev_Lst, ↓ev_CP, ↓ev_ML, ↓ev_Sli, ↓ev_oN, ↓ev_oS, ↓ev_Ch, ↓ev_gN, ↓ev_gsNil, ↓ev_gsCons, ↓ev_gT, ↓ev_Seq, ↓ev_Asg, ↓ev_Par, ↓ev_Ret, ↓ev_Drop, ↓ev_sIf, ↓ev_Next, ↓ev_Brk, ↓ev_Cont, ↓ev_RetN, ↓ev_Sub, ↓ev_For, ↓ev_body, ↓ev_iE, ↓ev_iR1, ↓ev_iR2, ↓ev_iZ, ↓ev_iEn, ↓ev_item, ↓ev_Lc, ↓ev_Yes, ↓ev_Par3, ↓ev_As2, ↓ev_As4, ↓ev_CV, ↓ev_Fld, ↓ev_Mk, ↓ev_Mk0, ↓ev_Mt, ↓ev_ForM, ↓ev_bodyM, ↓ev_gTmT, ↓ev_gTmR, ↓ev_AsgM, ↓ev_Star, ↓ev_Dc, ↓ev_iRv, kForM_e, kAsgM_e, kSt1_e, kSt2_e, kSt3_e, seqT, seqRf, popRf, insRf, inE, notInE, kDc_e, kRv_e, revT, revL, vOf_e, kO_e, kO2_e, kU_e, kCons_e, kCons2_e, kL_e, kIf_t, kIf_f, kB_e, kTr_e, kTr2_e, kAn_t, kAn_f, kOr_t, kOr_f, kNo_e, kNotB_e, kAnB_t, kAnB_f, kOrB_t, kOrB_f, kTup_e, kLst_e, kCP_e, kD_e, kML_e, kML2_e, kS1_e, kS2_e, kS3_e, kI_e, kCh1_e, kCh2_e, kCh3_t, kCh3_f, kAsg_e, kNx_e, kRet_e, kDrop_e, kSif_t, kSif_f, kSub1_e, kSub2_e, kSub3_e, kNxM_e, kFor_e, kBody_e, kIE_e, kSrc_e, kR1_e, kR2_e, kR2b_e, kZ1_e, kZ2_e, kEn_e, kMap_e, kMap2_e, kIt1_e, kIt2_t, kIt2_f, kSome_e, kLc_e, kLc2_e, kGc_e, par3_e, kAs2_e, kAs3_e, kAs4_e, kAs5_e, kAs6_e, fnOf2_e, fnV_e, kCV_e, kFld1_e, kFld2_e, kMk_e, kMk2_e, kMt_e, kMt2_e, kMt3_e, gFldE, setFE, metE, insAt_zero, insAt_succ, ob_s, ob_n, then_nx, then_rt, then_bk, then_ct, par2_e, turn_nx, turn_ct, turn_bk, turn_rt, runT_nil, runT_cons, mapT_nil, mapT_cons, finP_nx, finM_rt, finM_nx, addE, subE, negE, cmpE, ixT, truI, truB, at0, at1, at2, at3, List.getElem?_cons_zero, List.getElem?_cons_succ, List.set_cons_zero, List.set_cons_succ, List.length_cons, List.length_nil, Nat.reduceAdd, Nat.reduceLeDiff, if_true, if_false, reduceIte, reduceCtorEq, id_eq, Bool.not_true, Bool.not_false, Bool.false_eq_true, and_self, Int.reduceLE, Int.reduceLT, Int.reduceNeg, decide_true, decide_false, Option.toList_some, Option.toList_none, List.cons_append, List.nil_append, ixRf, tupRf, lenRf, listRf, isLstRf, appRf, revRf, setRf, itemsRf, itemsT, itemsL, zipT, zipRf, allRf, anyRf, sumRf, tupT, slRf, isiE, t2E, lenT, lstAt_zero, lstAt_succ, Option.isSome_some, Nat.reduceLT, Bool.or_true, Bool.or_false, Bool.true_or, Bool.false_or, gIsN, gNotN, D.isNon, wipeD, e1, e2 rest hr, e3 rest hr, decide_eq_false c1, eqIb, beq_self_eq_true, L, List.length_append]
      have g := gc3 h (d := d3) (G := []) (v := eFm (.half w q)) hr rfl
      rw [List.append_nil] at g
      exact W.eq (congrArg some g) ⟨.half w q, d3, o3.mono (by omega), ⟨b2.mono (by decide), b3.mono (by decide)⟩, nw, rfl⟩
    · have hb : (v == 2) = false := by simpa using c2
      obtain ⟨m, d2, o2, b2, e2⟩ := point_e h (b := b + 8) o1 (far := 3) (by decide) (by decide)
      obtain ⟨u, d3, o3, p3, q3, e3⟩ := h.pk (b := b + 7) o2 (n := 4) (by decide) (by decide)
      obtain ⟨r, hr0, br, er⟩ : ∃ r : Rat, 0 < r ∧ Rb 5 r ∧ atI [D.tup [.int 1, .int 1], D.tup [.int 2, .int 1], D.tup [.int 3, .int 2], D.tup [.int 5, .int 1]] u = some (eF r) := by
        have : u = 0 ∨ u = 1 ∨ u = 2 ∨ u = 3 := by omega
        rcases this with rfl | rfl | rfl | rfl
        · exact ⟨1, by decide, ⟨by unfold Bt; decide, by unfold Bt; decide⟩, rfl⟩
        · exact ⟨2, by decide, ⟨by unfold Bt; decide, by unfold Bt; decide⟩, rfl⟩
        · exact ⟨Rat.divInt 3 2, by decide +kernel, ⟨by unfold Bt; decide +kernel, by unfold Bt; decide +kernel⟩, by rw [show eF (Rat.divInt 3 2) = D.tup [.int 3, .int 2] by unfold eF; congr]; rfl⟩
        · exact ⟨5, by decide, ⟨by unfold Bt; decide, by unfold Bt; decide⟩, rfl⟩
      simp only [↓ev_V, ↓ev_C, ↓ev_O, ↓ev_U, ↓ev_Nil, ↓ev_Cons, ↓ev_L, ↓ev_If, ↓ev_tV, ↓ev_tTr, ↓ev_tAn, ↓ev_tOr, ↓ev_tNo, ↓ev_NotB, ↓ev_AnB, ↓ev_OrB, ↓ev_Tup, ↓ev_Lst, ↓ev_CP, ↓ev_ML, ↓ev_Sli, ↓ev_oN, ↓ev_oS, ↓ev_Ch, ↓ev_gN, ↓ev_gsNil, ↓ev_gsCons, ↓ev_gT, ↓ev_Seq, ↓ev_Asg, ↓ev_Par, ↓ev_Ret, ↓ev_Drop, ↓ev_sIf, ↓ev_Next, ↓ev_Brk, ↓ev_Cont, ↓ev_RetN, ↓ev_Sub, ↓ev_For, ↓ev_body, ↓ev_iE, ↓ev_iR1, ↓ev_iR2, ↓ev_iZ, ↓ev_iEn, ↓ev_item, ↓ev_Lc, ↓ev_Yes, ↓ev_Par3, ↓ev_As2, ↓ev_As4, ↓ev_CV, ↓ev_Fld, ↓ev_Mk, ↓ev_Mk0, ↓ev_Mt, ↓ev_ForM, ↓ev_bodyM, ↓ev_gTmT, ↓ev_gTmR, ↓ev_AsgM, ↓ev_Star, ↓ev_Dc, ↓ev_iRv, kForM_e, kAsgM_e, kSt1_e, kSt2_e, kSt3_e, seqT, seqRf, popRf, insRf, inE, notInE, kDc_e, kRv_e, revT, revL, vOf_e, kO_e, kO2_e, kU_e, kCons_e, kCons2_e, kL_e, kIf_t, kIf_f, kB_e, kTr_e, kTr2_e, kAn_t, kAn_f, kOr_t, kOr_f, kNo_e, kNotB_e, kAnB_t, kAnB_f, kOrB_t, kOrB_f, kTup_e, kLst_e, kCP_e, kD_e, kML_e, kML2_e, kS1_e, kS2_e, kS3_e, kI_e, kCh1_e, kCh2_e, kCh3_t, kCh3_f, kAsg_e, kNx_e, kRet_e, kDrop_e, kSif_t, kSif_f, kSub1_e, kSub2_e, kSub3_e, kNxM_e, kFor_e, kBody_e, kIE_e, kSrc_e, kR1_e, kR2_e, kR2b_e, kZ1_e, kZ2_e, kEn_e, kMap_e, kMap2_e, kIt1_e, kIt2_t, kIt2_f, kSome_e, kLc_e, kLc2_e, kGc_e, par3_e, kAs2_e, kAs3_e, kAs4_e, kAs5_e, kAs6_e, fnOf2_e, fnV_e, kCV_e, kFld1_e, kFld2_e, kMk_e, kMk2_e, kMt_e, kMt2_e, kMt3_e, gFldE, setFE, metE, insAt_zero, insAt_succ, ob_s, ob_n, then_nx, then_rt, then_bk, then_ct, par2_e, turn_nx, turn_ct, turn_bk, turn_rt, runT_nil, runT_cons, mapT_nil, mapT_cons, finP_nx, finM_rt, finM_nx, addE, subE, negE, cmpE, ixT, truI, truB, at0, at1, at2, at3, List.getElem?_cons_zero, List.getElem?_cons_succ, List.set_cons_zero, List.set_cons_succ, List.length_cons, List.length_nil, Nat.reduceAdd, Nat.reduceLeDiff, if_true, if_false, reduceIte, reduceCtorEq, id_eq, Bool.not_true, Bool.not_false, Bool.false_eq_true, and_self, Int.reduceLE, Int.reduceLT, Int.reduceNeg, decide_true, decide_false, Option.toList_some, Option.toList_none, List.cons_append, List.nil_append, ixRf, tupRf, lenRf, listRf, isLstRf, appRf, revRf, setRf, itemsRf, itemsT, itemsL, zipT, zipRf, allRf, anyRf, sumRf, tupT, slRf, isiE, t2E, lenT, lstAt_zero, lstAt_succ, Option.isSome_some, Nat.reduceLT, Bool.or_true, Bool.or_false, Bool.true_or, Bool.false_or, gIsN, gNotN, D.isNon, wipeD, e1, e2 rest hr, e3, decide_eq_false c1, eqIb, hb, L, List.append_assoc, List.length_append, z0, er]
      rw [gc3 h hr rfl]
      exact W.ret ⟨.ball m r, d3, o3.mono (by omega), ⟨b2.mono (by decide), br.mono (by decide)⟩, hr0, rfl⟩

/-! ### turns drawn -/
theorem dot_comm (p q : P3) : p.dot q = q.dot p := by
  simp only [P3.dot]
  grind
theorem itemsTt (t : T3) (M : Mem) : itemsOf (eT t) M = some ([eP t.a, eP t.b, eP t.c], fun _ => True) := rfl
theorem tupCa (t : T3) : D.tup [eF t.a.x, eF t.b.x, eF t.c.x] = eP t.cols.a := rfl
theorem tupCb (t : T3) : D.tup [eF t.a.y, eF t.b.y, eF t.c.y] = eP t.cols.b := rfl
theorem tupCc (t : T3) : D.tup [eF t.a.z, eF t.b.z, eF t.c.z] = eP t.cols.c := rfl
theorem eF_neg (s : Rat) : D.tup [.int (0 - s.num), .int (s.den : Int)] = eF (-s) := by
  unfold eF
  rw [Rat.neg_num, Rat.neg_den, Int.zero_sub]
def rotX (c s : Rat) : T3 := ⟨⟨1, 0, 0⟩, ⟨0, c, -s⟩, ⟨0, s, c⟩⟩
def rotY (c s : Rat) : T3 := ⟨⟨c, 0, s⟩, ⟨0, 1, 0⟩, ⟨-s, 0, c⟩⟩
def rotZ (c s : Rat) : T3 := ⟨⟨c, -s, 0⟩, ⟨s, c, 0⟩, ⟨0, 0, 1⟩⟩
theorem rot_ort {c s : Rat} (h : c * c + s * s = 1) : (rotX c s).Ort ∧ (rotY c s).Ort ∧ (rotZ c s).Ort := by
  refine ⟨fun x y => ?_, fun x y => ?_, fun x y => ?_⟩
  · simp only [T3.app, rotX, P3.dot]
    grind
  · simp only [T3.app, rotY, P3.dot]
    grind
  · simp only [T3.app, rotZ, P3.dot]
    grind
theorem Fx.neg {d n : Nat} {q : Rat} (h : Fx d n q) : Fx d n (-q) := by
  obtain ⟨a, ha, rfl⟩ := h
  exact ⟨-a, by rw [Int.natAbs_neg]; exact ha, by rw [Rat.neg_divInt]⟩
theorem rot_F {d n : Nat} {c s : Rat} (hd : 0 < d) (hn : d ≤ n) (hc : Fx d n c) (hs : Fx d n s) : (rotX c s).F d n ∧ (rotY c s).F d n ∧ (rotZ c s).F d n := by
  have z : Fx d n 0 := ⟨0, Nat.zero_le _, by simp⟩
  have o : Fx d n 1 := ⟨d, by simpa using hn, by rw [Rat.divInt_self' (by omega)]⟩
  exact ⟨⟨⟨o, z, z⟩, ⟨z, hc, hs.neg⟩, ⟨z, hs, hc⟩⟩, ⟨⟨hc, z, hs⟩, ⟨z, o, z⟩, ⟨hs.neg, z, hc⟩⟩, ⟨⟨hc, hs.neg, z⟩, ⟨hs, hc, z⟩, ⟨z, z, o⟩⟩⟩
def tupTt (t : T3) : D.tup [eP t.a, eP t.b, eP t.c] = eT t := rfl
/-- one turn more: its rows are drawn -/
theorem turn_w {k : Dk6} (h : k.Ok) {b : Nat} {d : Ds} (hd : d.O3 (b + 10)) {rest : Mem} (hr : rest.all (Cell.lo 0) = true) : W (m__law_turn [.rf k.s] (k.M d ++ rest)) fun y => ∃ t d', Ds.O3 b d' ∧ t.F (65 ^ 2) (195 ^ 2) ∧ t.Ort ∧ y = (eT t, k.M d' ++ rest) := by
  have L : ∀ d, List.length (k.M d) = k.B.length := fun d => Dk6.len
  obtain ⟨v, d1, o1, v1, v2, e1⟩ := h.pk (b := b + 9) hd (n := 3) (by decide) (by decide)
  rw [e__law_turn]
  unfold b__law_turn
  have r1 : v ≤ 100000 ∧ -100000 ≤ v := by omega
  simp only [↓ev_V, ↓ev_C, ↓ev_O, ↓ev_U, ↓ev_Nil, ↓ev_Cons, ↓ev_L, ↓ev_If, ↓ev_tV, ↓ev_tTr, ↓ev_tAn, ↓ev_tOr, ↓ev_tNo, ↓ev_NotB, ↓ev_AnB, ↓ev_OrB, ↓ev_Tup, ↓ev_Lst, ↓ev_CP, ↓ev_ML, ↓ev_Sli, ↓ev_oN, ↓ev_oS, ↓ev_Ch, ↓ev_gN, ↓ev_gsNil, ↓ev_gsCons, ↓ev_gT, ↓ev_Seq, ↓ev_Asg, ↓ev_Par, ↓ev_Ret, ↓ev_Drop, ↓ev_sIf, ↓ev_Next, ↓ev_Brk, ↓ev_Cont, ↓ev_RetN, ↓ev_Sub, ↓ev_For, ↓ev_body, ↓ev_iE, ↓ev_iR1, ↓ev_iR2, ↓ev_iZ, ↓ev_iEn, ↓ev_item, ↓ev_Lc, ↓ev_Yes, ↓ev_Par3, ↓ev_As2, ↓ev_As4, ↓ev_CV, ↓ev_Fld, ↓ev_Mk, ↓ev_Mk0, ↓ev_Mt, ↓ev_ForM, ↓ev_bodyM, ↓ev_gTmT, ↓ev_gTmR, ↓ev_AsgM, ↓ev_Star, ↓ev_Dc, ↓ev_iRv, kForM_e, kAsgM_e, kSt1_e, kSt2_e, kSt3_e, seqT, seqRf, popRf, insRf, inE, notInE, kDc_e, kRv_e, revT, revL, vOf_e, kO_e, kO2_e, kU_e, kCons_e, kCons2_e, kL_e, kIf_t, kIf_f, kB_e, kTr_e, kTr2_e, kAn_t, kAn_f, kOr_t, kOr_f, kNo_e, kNotB_e, kAnB_t, kAnB_f, kOrB_t, kOrB_f, kTup_e, kLst_e, kCP_e, kD_e, kML_e, kML2_e, kS1_e, kS2_e, kS3_e, kI_e, kCh1_e, kCh2_e, kCh3_t, kCh3_f, kAsg_e, kNx_e, kRet_e, kDrop_e, kSif_t, kSif_f, kSub1_e, kSub2_e, kSub3_e, kNxM_e, kFor_e, kBody_e, kIE_e, kSrc_e, kR1_e, kR2_e, kR2b_e, kZ1_e, kZ2_e, kEn_e, kMap_e, kMap2_e, kIt1_e, kIt2_t, kIt2_f, kSome_e, kLc_e, kLc2_e, kGc_e, par3_e, kAs2_e, kAs3_e, kAs4_e, kAs5_e, kAs6_e, fnOf2_e, fnV_e, kCV_e, kFld1_e, kFld2_e, kMk_e, kMk2_e, kMt_e, kMt2_e, kMt3_e, gFldE, setFE, metE, insAt_zero, insAt_succ, ob_s, ob_n, then_nx, then_rt, then_bk, then_ct, par2_e, turn_nx, turn_ct, turn_bk, turn_rt, runT_nil, runT_cons, mapT_nil, mapT_cons, finP_nx, finM_rt, finM_nx, addE, subE, negE, cmpE, ixT, truI, truB, at0, at1, at2, at3, List.getElem?_cons_zero, List.getElem?_cons_succ, List.set_cons_zero, List.set_cons_succ, List.length_cons, List.length_nil, Nat.reduceAdd, Nat.reduceLeDiff, if_true, if_false, reduceIte, reduceCtorEq, id_eq, Bool.not_true, Bool.not_false, Bool.false_eq_true, and_self, Int.reduceLE, Int.reduceLT, Int.reduceNeg, decide_true, decide_false, Option.toList_some, Option.toList_none, List.cons_append, List.nil_append, ixRf, tupRf, lenRf, listRf, isLstRf, appRf, revRf, setRf, itemsRf, itemsT, itemsL, zipT, zipRf, allRf, anyRf, sumRf, tupT, slRf, isiE, t2E, lenT, lstAt_zero, lstAt_succ, Option.isSome_some, Nat.reduceLT, Bool.or_true, Bool.or_false, Bool.true_or, Bool.false_or, gIsN, gNotN, D.isNon, wipeD, e1, eF0, eF1', tupId, if_pos r1, L, List.length_append]
  refine W.cut (fun y => ∃ t d', Ds.O3 b d' ∧ t.F (65 ^ 2) (195 ^ 2) ∧ t.Ort ∧ ∃ G, y = (eT t, k.M d' ++ (rest ++ G))) ?_ (fun y ⟨t, d', o, f, ot, G, e⟩ => by
    subst e
    rw [kGc_e, gc3 h hr rfl]
    exact W.ret ⟨t, d', o, f, ot, rfl⟩)
  refine W.cut (fun y => ∃ t d', Ds.O3 b d' ∧ t.F (65 ^ 2) (195 ^ 2) ∧ t.Ort ∧ ∃ G, y = (.rt (eT t), k.M d' ++ (rest ++ G))) ?_ (fun y ⟨t, d', o, f, ot, G, e⟩ => by
    subst e
    exact W.ret ⟨t, d', o, f, ot, G, rfl⟩)
  refine W.run (fun j ρ M => ∃ t d' G x2 x3 x4 x5 x6 x7 x8 x9 x10, Ds.O3 (b + 9 - 2 * j) d' ∧ t.F (65 ^ j) (195 ^ j) ∧ t.Ort ∧ M = k.M d' ++ (rest ++ G) ∧ ρ = [some (.rf k.s), some (eT t), x2, x3, x4, x5, x6, x7, x8, x9, x10, none, none])
    ⟨id3, d1, [], _, _, _, _, _, _, _, _, _, o1, by
      have z : Fx (65 ^ 0) (195 ^ 0) 0 := ⟨0, by decide, by simp⟩
      have o : Fx (65 ^ 0) (195 ^ 0) 1 := ⟨1, by decide, by rfl⟩
      exact ⟨⟨o, z, z⟩, ⟨z, o, z⟩, ⟨z, z, o⟩⟩, id3_ort, by simp, rfl⟩ (fun _ _ _ _ => trivial) ?_ ?_
  · rintro j x hx ρ M ⟨t, d', G, x2, x3, x4, x5, x6, x7, x8, x9, x10, o, f, ot, rfl, rfl⟩
    have hj : j < v.toNat := (upto_get hx).1
    have hj2 : j < 2 := by omega
    generalize hR : rest ++ G = R
    obtain ⟨u, d2, o2, u1, u2, e2⟩ := h.pk (b := b + 8 - 2 * j) (o.mono (by omega)) (n := 4) (by decide) (by decide)
    obtain ⟨a, d3, o3, a1, a2, e3⟩ := h.pk (b := b + 9 - 2 * (j + 1)) (o2.mono (by omega)) (n := 3) (by decide) (by decide)
    obtain ⟨c, s, cs, fc, fs, ec⟩ : ∃ c s : Rat, c * c + s * s = 1 ∧ Fx 65 65 c ∧ Fx 65 65 s ∧ atI [D.tup [eF 0, eF 1], D.tup [.tup [.int 3, .int 5], .tup [.int 4, .int 5]], D.tup [.tup [.int (-1), .int 1], eF 0], D.tup [.tup [.int 5, .int 13], .tup [.int (-12), .int 13]]] u = some (.tup [eF c, eF s]) := by
      have : u = 0 ∨ u = 1 ∨ u = 2 ∨ u = 3 := by omega
      rcases this with rfl | rfl | rfl | rfl
      · exact ⟨0, 1, by decide +kernel, ⟨0, by decide, by decide +kernel⟩, ⟨65, by decide, by decide +kernel⟩, rfl⟩
      · exact ⟨Rat.divInt 3 5, Rat.divInt 4 5, by decide +kernel, ⟨39, by decide, by decide +kernel⟩, ⟨52, by decide, by decide +kernel⟩, by
          rw [show eF (Rat.divInt 3 5) = D.tup [.int 3, .int 5] by unfold eF; congr, show eF (Rat.divInt 4 5) = D.tup [.int 4, .int 5] by unfold eF; congr]
          rfl⟩
      · exact ⟨-1, 0, by decide +kernel, ⟨-65, by decide, by decide +kernel⟩, ⟨0, by decide, by decide +kernel⟩, rfl⟩
      · exact ⟨Rat.divInt 5 13, Rat.divInt (-12) 13, by decide +kernel, ⟨25, by decide, by decide +kernel⟩, ⟨-60, by decide, by decide +kernel⟩, by
          rw [show eF (Rat.divInt 5 13) = D.tup [.int 5, .int 13] by unfold eF; congr, show eF (Rat.divInt (-12) 13) = D.tup [.int (-12), .int 13] by unfold eF; congr]
          rfl⟩
    have zA := fun d X i => atB (rest := R) (L d) X i
    have z0 := fun d X => atB0 (rest := R) (L d) X
    have gA := fun d X i => getB (rest := R) (L d) X i
    have hRo : ∃ A, (A = rotX c s ∧ a = 0) ∨ (A = rotY c s ∧ a = 1) ∨ (A = rotZ c s ∧ a = 2) := by
      have : a = 0 ∨ a = 1 ∨ a = 2 := by omega
      rcases this with rfl | rfl | rfl
      · exact ⟨_, .inl ⟨rfl, rfl⟩⟩
      · exact ⟨_, .inr (.inl ⟨rfl, rfl⟩)⟩
      · exact ⟨_, .inr (.inr ⟨rfl, rfl⟩)⟩
    obtain ⟨A, hA⟩ := hRo
    have oA : A.Ort := by
      rcases hA with ⟨rfl, _⟩ | ⟨rfl, _⟩ | ⟨rfl, _⟩
      · exact (rot_ort cs).1
      · exact (rot_ort cs).2.1
      · exact (rot_ort cs).2.2
    have fA : A.F 65 65 := by
      rcases hA with ⟨rfl, _⟩ | ⟨rfl, _⟩ | ⟨rfl, _⟩
      · exact (rot_F (by decide) (by decide) fc fs).1
      · exact (rot_F (by decide) (by decide) fc fs).2.1
      · exact (rot_F (by decide) (by decide) fc fs).2.2
    have bA : A.B 8 := fA.rb (by decide) (by decide) (by decide)
    have bT : t.cols.B 20 := by
      have h1 : 65 ^ j < 2 ^ 20 := by
        have : j = 0 ∨ j = 1 := by omega
        rcases this with rfl | rfl <;> decide
      have h2 : 195 ^ j < 2 ^ 20 := by
        have : j = 0 ∨ j = 1 := by omega
        rcases this with rfl | rfl <;> decide
      exact (f.rb (Nat.pow_pos (by decide)) h1 h2).cols
    have ld := fun {p q : P3} (hp : p.B 8) (hq : q.B 20) => (ldot_e hp hq (by decide)).trans (by rw [dot_comm])
    have k1 := ld bA.1 bT.1
    have k2 := ld bA.1 bT.2.1
    have k3 := ld bA.1 bT.2.2
    have k4 := ld bA.2.1 bT.1
    have k5 := ld bA.2.1 bT.2.1
    have k6 := ld bA.2.1 bT.2.2
    have k7 := ld bA.2.2 bT.1
    have k8 := ld bA.2.2 bT.2.1
    have k9 := ld bA.2.2 bT.2.2
    have fin : D.tup [D.tup [eF (t.cols.a.dot A.a), eF (t.cols.b.dot A.a), eF (t.cols.c.dot A.a)], D.tup [eF (t.cols.a.dot A.b), eF (t.cols.b.dot A.b), eF (t.cols.c.dot A.b)], D.tup [eF (t.cols.a.dot A.c), eF (t.cols.b.dot A.c), eF (t.cols.c.dot A.c)]] = eT (A.mul t) := rfl
    have nf := eF_neg s
    have res : ∀ (G' : Mem) (y9 y10 : Option D), ∃ ρ' M', (Fl.nx [some (.rf k.s), some (eT (A.mul t)), some x, some (eF c), some (eF s), some (eF (-s)), some (.rf (k.B.length + (R.length + 1))), some (.rf (k.B.length + (R.length + 2))), some (.rf (k.B.length + (R.length + 3))), y9, y10, none, none], k.M d3 ++ (R ++ G')) = (.nx ρ', M') ∧
        ∃ t d' G x2 x3 x4 x5 x6 x7 x8 x9 x10, Ds.O3 (b + 9 - 2 * (j + 1)) d' ∧ t.F (65 ^ (j + 1)) (195 ^ (j + 1)) ∧ t.Ort ∧ M' = k.M d' ++ (rest ++ G) ∧ ρ' = [some (.rf k.s), some (eT t), x2, x3, x4, x5, x6, x7, x8, x9, x10, none, none] := fun G' y9 y10 =>
      ⟨_, _, rfl, A.mul t, d3, G ++ G', _, _, _, _, _, _, _, _, _, o3, by
        have := T3.F.mul (by decide) (Nat.pow_pos (by decide)) fA f
        rw [Nat.pow_succ, Nat.pow_succ]
        exact this.mono (by omega), oA.mul ot, by rw [← hR, List.append_assoc], rfl⟩
    rcases hA with ⟨rfl, rfl⟩ | ⟨rfl, rfl⟩ | ⟨rfl, rfl⟩
    · simp only [rotX] at k1 k2 k3 k4 k5 k6 k7 k8 k9 fin
      have w1 : D.tup [eF 1, eF 0, eF 0] = eP ⟨1, 0, 0⟩ := rfl
      have w2 : D.tup [eF 0, eF c, eF (-s)] = eP ⟨0, c, -s⟩ := rfl
      have w3 : D.tup [eF 0, eF s, eF c] = eP ⟨0, s, c⟩ := rfl
      simp only [↓ev_V, ↓ev_C, ↓ev_O, ↓ev_U, ↓ev_Nil, ↓ev_Cons, ↓ev_L, ↓ev_If, ↓ev_tV, ↓ev_tTr, ↓ev_tAn, ↓ev_tOr, ↓ev_tNo, ↓ev_NotB, ↓ev_AnB, ↓ev_OrB, ↓ev_Tup, ↓ev_Lst, ↓ev_CP, ↓ev_ML, ↓ev_Sli, ↓ev_oN, ↓ev_oS, ↓ev_Ch, ↓ev_gN, ↓ev_gsNil, ↓ev_gsCons, ↓ev_gT, ↓ev_Seq, ↓ev_Asg, ↓ev_Par, ↓ev_Ret, ↓ev_Drop, ↓ev_sIf, ↓ev_Next, ↓ev_Brk, ↓ev_Cont, ↓ev_RetN, ↓ev_Sub, ↓ev_For, ↓ev_body, ↓ev_iE, ↓ev_iR1, ↓ev_iR2, ↓ev_iZ, ↓ev_iEn, ↓ev_item, ↓ev_Lc, ↓ev_Yes, ↓ev_Par3, ↓ev_As2, ↓ev_As4, ↓ev_CV, ↓ev_Fld, ↓ev_Mk, ↓ev_Mk0, ↓ev_Mt, ↓ev_ForM, ↓ev_bodyM, ↓ev_gTmT, ↓ev_gTmR, ↓ev_AsgM, ↓ev_Star, ↓ev_Dc, ↓ev_iRv, kForM_e, kAsgM_e, kSt1_e, kSt2_e, kSt3_e, seqT, seqRf, popRf, insRf, inE, notInE, kDc_e, kRv_e, revT, revL, vOf_e, kO_e, kO2_e, kU_e, kCons_e, kCons2_e, kL_e, kIf_t, kIf_f, kB_e, kTr_e, kTr2_e, kAn_t, kAn_f, kOr_t, kOr_f, kNo_e, kNotB_e, kAnB_t, kAnB_f, kOrB_t, kOrB_f, kTup_e, kLst_e, kCP_e, kD_e, kML_e, kML2_e, kS1_e, kS2_e, kS3_e, kI_e, kCh1_e, kCh2_e, kCh3_t, kCh3_f, kAsg_e, kNx_e, kRet_e, kDrop_e, kSif_t, kSif_f, kSub1_e, kSub2_e, kSub3_e, kNxM_e, kFor_e, kBody_e, kIE_e, kSrc_e, kR1_e, kR2_e, kR2b_e, kZ1_e, kZ2_e, kEn_e, kMap_e, kMap2_e, kIt1_e, kIt2_t, kIt2_f, kSome_e, kLc_e, kLc2_e, kGc_e, par3_e, kAs2_e, kAs3_e, kAs4_e, kAs5_e, kAs6_e, fnOf2_e, fnV_e, kCV_e, kFld1_e, kFld2_e, kMk_e, kMk2_e, kMt_e, kMt2_e, kMt3_e, gFldE, setFE, metE, insAt_zero, insAt_succ, ob_s, ob_n, then_nx, then_rt, then_bk, then_ct, par2_e, turn_nx, turn_ct, turn_bk, turn_rt, runT_nil, runT_cons, mapT_nil, mapT_cons, finP_nx, finM_rt, finM_nx, addE, subE, negE, cmpE, ixT, truI, truB, at0, at1, at2, at3, List.getElem?_cons_zero, List.getElem?_cons_succ, List.set_cons_zero, List.set_cons_succ, List.length_cons, List.length_nil, Nat.reduceAdd, Nat.reduceLeDiff, if_true, if_false, reduceIte, reduceCtorEq, id_eq, Bool.not_true, Bool.not_false, Bool.false_eq_true, and_self, Int.reduceLE, Int.reduceLT, Int.reduceNeg, decide_true, decide_false, Option.toList_some, Option.toList_none, List.cons_append, List.nil_append, ixRf, tupRf, lenRf, listRf, isLstRf, appRf, revRf, setRf, itemsRf, itemsT, itemsL, zipT, zipRf, allRf, anyRf, sumRf, tupT, slRf, isiE, t2E, lenT, lstAt_zero, lstAt_succ, Option.isSome_some, Nat.reduceLT, Bool.or_true, Bool.or_false, Bool.true_or, Bool.false_or, gIsN, gNotN, D.isNon, wipeD, e2, e3, eF0, eF1', ec, ix_eF0, ix_eF1, nf, L, List.append_assoc, List.length_append, z0, zA, gA, upto3, itemsTt, ix_eP0, ix_eP1, ix_eP2, tupCa, tupCb, tupCc, w1, w2, w3, mapC_cons, mapC_nil, k1, k2, k3, k4, k5, k6, k7, k8, k9, fin]
      exact W.ret (res _ _ _)
    · simp only [rotY] at k1 k2 k3 k4 k5 k6 k7 k8 k9 fin
      have w1 : D.tup [eF c, eF 0, eF s] = eP ⟨c, 0, s⟩ := rfl
      have w2 : D.tup [eF 0, eF 1, eF 0] = eP ⟨0, 1, 0⟩ := rfl
      have w3 : D.tup [eF (-s), eF 0, eF c] = eP ⟨-s, 0, c⟩ := rfl
      simp only [↓ev_V, ↓ev_C, ↓ev_O, ↓ev_U, ↓ev_Nil, ↓ev_Cons, ↓ev_L, ↓ev_If, ↓ev_tV, ↓ev_tTr, ↓ev_tAn, ↓ev_tOr, ↓ev_tNo, ↓ev_NotB, ↓ev_AnB, ↓ev_OrB, ↓ev_Tup, ↓ev_Lst, ↓ev_CP, ↓ev_ML, ↓ev_Sli, ↓ev_oN, ↓ev_oS, ↓ev_Ch, ↓ev_gN, ↓ev_gsNil, ↓ev_gsCons, ↓ev_gT, ↓ev_Seq, ↓ev_Asg, ↓ev_Par, ↓ev_Ret, ↓ev_Drop, ↓ev_sIf, ↓ev_Next, ↓ev_Brk, ↓ev_Cont, ↓ev_RetN, ↓ev_Sub, ↓ev_For, ↓ev_body, ↓ev_iE, ↓ev_iR1, ↓ev_iR2, ↓ev_iZ, ↓ev_iEn, ↓ev_item, ↓ev_Lc, ↓ev_Yes, ↓ev_Par3, ↓ev_As2, ↓ev_As4, ↓ev_CV, ↓ev_Fld, ↓ev_Mk, ↓ev_Mk0, ↓ev_Mt, ↓ev_ForM, ↓ev_bodyM, ↓ev_gTmT, ↓ev_gTmR, ↓ev_AsgM, ↓ev_Star, ↓ev_Dc, ↓ev_iRv, kForM_e, kAsgM_e, kSt1_e, kSt2_e, kSt3_e, seqT, seqRf, popRf, insRf, inE, notInE, kDc_e, kRv_e, revT, revL, vOf_e, kO_e, kO2_e, kU_e, kCons_e, kCons2_e, kL_e, kIf_t, kIf_f, kB_e, kTr_e, kTr2_e, kAn_t, kAn_f, kOr_t, kOr_f, kNo_e, kNotB_e, kAnB_t, kAnB_f, kOrB_t, kOrB_f, kTup_e, kLst_e, kCP_e, kD_e, kML_e, kML2_e, kS1_e, kS2_e, kS3_e, kI_e, kCh1_e, kCh2_e, kCh3_t, kCh3_f, kAsg_e, kNx_e, kRet_e, kDrop_e, kSif_t, kSif_f, kSub1_e, kSub2_e, kSub3_e, kNxM_e, kFor_e, kBody_e, kIE_e, kSrc_e, kR1_e, kR2_e, kR2b_e, kZ1_e, kZ2_e, kEn_e, kMap_e, kMap2_e, kIt1_e, kIt2_t, kIt2_f, kSome_e, kLc_e, kLc2_e, kGc_e, par3_e, kAs2_e, kAs3_e, kAs4_e, kAs5_e, kAs6_e, fnOf2_e, fnV_e, kCV_e, kFld1_e, kFld2_e, kMk_e, kMk2_e, kMt_e, kMt2_e, kMt3_e, gFldE, setFE, metE, insAt_zero, insAt_succ, ob_s, ob_n, then_nx, then_rt, then_bk, then_ct, par2_e, turn_nx, turn_ct, turn_bk, turn_rt, runT_nil, runT_cons, mapT_nil, mapT_cons, finP_nx, finM_rt, finM_nx, addE, subE, negE, cmpE, ixT, truI, truB, at0, at1, at2, at3, List.getElem?_cons_zero, List.getElem?_cons_succ, List.set_cons_zero, List.set_cons_succ, List.length_cons, List.length_nil, Nat.reduceAdd, Nat.reduceLeDiff, if_true, if_false, reduceIte, reduceCtorEq, id_eq, Bool.not_true, Bool.not_false, Bool.false_eq_true, and_self, Int.reduceLE, Int.reduceLT, Int.reduceNeg, decide_true, decide_false, Option.toList_some, Option.toList_none, List.cons_append, List.nil_append, ixRf, tupRf, lenRf, listRf, isLstRf, appRf, revRf, setRf, itemsRf, itemsT, itemsL, zipT, zipRf, allRf, anyRf, sumRf, tupT, slRf, isiE, t2E, lenT, lstAt_zero, lstAt_succ, Option.isSome_some, Nat.reduceLT, Bool.or_true, Bool.or_false, Bool.true_or, Bool.false_or, gIsN, gNotN, D.isNon, wipeD, e2, e3, eF0, eF1', ec, ix_eF0, ix_eF1, nf, L, List.append_assoc, List.length_append, z0, zA, gA, upto3, itemsTt, ix_eP0, ix_eP1, ix_eP2, tupCa, tupCb, tupCc, w1, w2, w3, mapC_cons, mapC_nil, k1, k2, k3, k4, k5, k6, k7, k8, k9, fin]
      exact W.ret (res _ _ _)
    · simp only [rotZ] at k1 k2 k3 k4 k5 k6 k7 k8 k9 fin
      have w1 : D.tup [eF c, eF (-s), eF 0] = eP ⟨c, -s, 0⟩ := rfl
      have w2 : D.tup [eF s, eF c, eF 0] = eP ⟨s, c, 0⟩ := rfl
      have w3 : D.tup [eF 0, eF 0, eF 1] = eP ⟨0, 0, 1⟩ := rfl
      simp only [↓ev_V, ↓ev_C, ↓ev_O, ↓ev_U, ↓ev_Nil, ↓ev_Cons, ↓ev_L, ↓ev_If, ↓ev_tV, ↓ev_tTr, ↓ev_tAn, ↓ev_tOr, ↓ev_tNo, ↓ev_NotB, ↓ev_AnB, ↓ev_OrB, ↓ev_Tup, ↓ev_Lst, ↓ev_CP, ↓ev_ML, ↓ev_Sli, ↓ev_oN, ↓ev_oS, ↓ev_Ch, ↓ev_gN, ↓ev_gsNil, ↓ev_gsCons, ↓ev_gT, ↓ev_Seq, ↓ev_Asg, ↓ev_Par, ↓ev_Ret, ↓ev_Drop, ↓ev_sIf, ↓ev_Next, ↓ev_Brk, ↓ev_Cont, ↓ev_RetN, ↓ev_Sub, ↓ev_For, ↓ev_body, ↓ev_iE, ↓ev_iR1, ↓ev_iR2, ↓ev_iZ, ↓ev_iEn, ↓ev_item, ↓ev_Lc, ↓ev_Yes, ↓ev_Par3, ↓ev_As2, ↓ev_As4, ↓ev_CV, ↓ev_Fld, ↓ev_Mk, ↓ev_Mk0, ↓ev_Mt, ↓ev_ForM, ↓ev_bodyM, ↓ev_gTmT, ↓ev_gTmR, ↓ev_AsgM, ↓ev_Star, ↓ev_Dc, ↓ev_iRv, kForM_e, kAsgM_e, kSt1_e, kSt2_e, kSt3_e, seqT, seqRf, popRf, insRf, inE, notInE, kDc_e, kRv_e, revT, revL, vOf_e, kO_e, kO2_e, kU_e, kCons_e, kCons2_e, kL_e, kIf_t, kIf_f, kB_e, kTr_e, kTr2_e, kAn_t, kAn_f, kOr_t, kOr_f, kNo_e, kNotB_e, kAnB_t, kAnB_f, kOrB_t, kOrB_f, kTup_e, kLst_e, kCP_e, kD_e, kML_e, kML2_e, kS1_e, kS2_e, kS3_e, kI_e, kCh1_e, kCh2_e, kCh3_t, kCh3_f, kAsg_e, kNx_e, kRet_e, kDrop_e, kSif_t, kSif_f, kSub1_e, kSub2_e, kSub3_e, kNxM_e, kFor_e, kBody_e, kIE_e, kSrc_e, kR1_e, kR2_e, kR2b_e, kZ1_e, kZ2_e, kEn_e, kMap_e, kMap2_e, kIt1_e, kIt2_t, kIt2_f, kSome_e, kLc_e, kLc2_e, kGc_e, par3_e, kAs2_e, kAs3_e, kAs4_e, kAs5_e, kAs6_e, fnOf2_e, fnV_e, kCV_e, kFld1_e, kFld2_e, kMk_e, kMk2_e, kMt_e, kMt2_e, kMt3_e, gFldE, setFE, metE, insAt_zero, insAt_succ, ob_s, ob_n, then_nx, then_rt, then_bk, then_ct, par2_e, turn_nx, turn_ct, turn_bk, turn_rt, runT_nil, runT_cons, mapT_nil, mapT_cons, finP_nx, finM_rt, finM_nx, addE, subE, negE, cmpE, ixT, truI, truB, at0, at1, at2, at3, List.getElem?_cons_zero, List.getElem?_cons_succ, List.set_cons_zero, List.set_cons_succ, List.length_cons, List.length_nil, Nat.reduceAdd, Nat.reduceLeDiff, if_true, if_false, reduceIte, reduceCtorEq, id_eq, Bool.not_true, Bool.not_false, Bool.false_eq_true, and_self, Int.reduceLE, Int.reduceLT, Int.reduceNeg, decide_true, decide_false, Option.toList_some, Option.toList_none, List.cons_append, List.nil_append, ixRf, tupRf, lenRf, listRf, isLstRf, appRf, revRf, setRf, itemsRf, itemsT, itemsL, zipT, zipRf, allRf, anyRf, sumRf, tupT, slRf, isiE, t2E, lenT, lstAt_zero, lstAt_succ, Option.isSome_some, Nat.reduceLT, Bool.or_true, Bool.or_false, Bool.true_or, Bool.false_or, gIsN, gNotN, D.isNon, wipeD, e2, e3, eF0, eF1', ec, ix_eF0, ix_eF1, nf, L, List.append_assoc, List.length_append, z0, zA, gA, upto3, itemsTt, ix_eP0, ix_eP1, ix_eP2, tupCa, tupCb, tupCc, w1, w2, w3, mapC_cons, mapC_nil, k1, k2, k3, k4, k5, k6, k7, k8, k9, fin]
      exact W.ret (res _ _ _)
  · rintro ρ M ⟨t, d', G, x2, x3, x4, x5, x6, x7, x8, x9, x10, o, f, ot, rfl, rfl⟩
    simp only [↓ev_V, ↓ev_C, ↓ev_O, ↓ev_U, ↓ev_Nil, ↓ev_Cons, ↓ev_L, ↓ev_If, ↓ev_tV, ↓ev_tTr, ↓ev_tAn, ↓ev_tOr, ↓ev_tNo, ↓ev_NotB, ↓ev_AnB, ↓ev_OrB, ↓ev_Tup, ↓ev_Lst, ↓ev_CP, ↓ev_ML, ↓ev_Sli, ↓ev_oN, ↓ev_oS, ↓ev_Ch, ↓ev_gN, ↓ev_gsNil, ↓ev_gsCons, ↓ev_gT, ↓ev_Seq, ↓ev_Asg, ↓ev_Par, ↓ev_Ret, ↓ev_Drop, ↓ev_sIf, ↓ev_Next, ↓ev_Brk, ↓ev_Cont, ↓ev_RetN, ↓ev_Sub, ↓ev_For, ↓ev_body, ↓ev_iE, ↓ev_iR1, ↓ev_iR2, ↓ev_iZ, ↓ev_iEn, ↓ev_item, ↓ev_Lc, ↓ev_Yes, ↓ev_Par3, ↓ev_As2, ↓ev_As4, ↓ev_CV, ↓ev_Fld, ↓ev_Mk, ↓ev_Mk0, ↓ev_Mt, ↓ev_ForM, ↓ev_bodyM, ↓ev_gTmT, ↓ev_gTmR, ↓ev_AsgM, ↓ev_Star, ↓ev_Dc, ↓ev_iRv, kForM_e, kAsgM_e, kSt1_e, kSt2_e, kSt3_e, seqT, seqRf, popRf, insRf, inE, notInE, kDc_e, kRv_e, revT, revL, vOf_e, kO_e, kO2_e, kU_e, kCons_e, kCons2_e, kL_e, kIf_t, kIf_f, kB_e, kTr_e, kTr2_e, kAn_t, kAn_f, kOr_t, kOr_f, kNo_e, kNotB_e, kAnB_t, kAnB_f, kOrB_t, kOrB_f, kTup_e, kLst_e, kCP_e, kD_e, kML_e, kML2_e, kS1_e, kS2_e, kS3_e, kI_e, kCh1_e, kCh2_e, kCh3_t, kCh3_f, kAsg_e, kNx_e, kRet_e, kDrop_e, kSif_t, kSif_f, kSub1_e, kSub2_e, kSub3_e, kNxM_e, kFor_e, kBody_e, kIE_e, kSrc_e, kR1_e, kR2_e, kR2b_e, kZ1_e, kZ2_e, kEn_e, kMap_e, kMap2_e, kIt1_e, kIt2_t, kIt2_f, kSome_e, kLc_e, kLc2_e, kGc_e, par3_e, kAs2_e, kAs3_e, kAs4_e, kAs5_e, kAs6_e, fnOf2_e, fnV_e, kCV_e, kFld1_e, kFld2_e, kMk_e, kMk2_e, kMt_e, kMt2_e, kMt3_e, gFldE, setFE, metE, insAt_zero, insAt_succ, ob_s, ob_n, then_nx, then_rt, then_bk, then_ct, par2_e, turn_nx, turn_ct, turn_bk, turn_rt, runT_nil, runT_cons, mapT_nil, mapT_cons, finP_nx, finM_rt, finM_nx, addE, subE, negE, cmpE, ixT, truI, truB, at0, at1, at2, at3, List.getElem?_cons_zero, List.getElem?_cons_succ, List.set_cons_zero, List.set_cons_succ, List.length_cons, List.length_nil, Nat.reduceAdd, Nat.reduceLeDiff, if_true, if_false, reduceIte, reduceCtorEq, id_eq, Bool.not_true, Bool.not_false, Bool.false_eq_true, and_self, Int.reduceLE, Int.reduceLT, Int.reduceNeg, decide_true, decide_false, Option.toList_some, Option.toList_none, List.cons_append, List.nil_append, ixRf, tupRf, lenRf, listRf, isLstRf, appRf, revRf, setRf, itemsRf, itemsT, itemsL, zipT, zipRf, allRf, anyRf, sumRf, tupT, slRf, isiE, t2E, lenT, lstAt_zero, lstAt_succ, Option.isSome_some, Nat.reduceLT, Bool.or_true, Bool.or_false, Bool.true_or, Bool.false_or, gIsN, gNotN, D.isNon, wipeD]
    rw [upto_len] at f o
    refine W.ret ⟨t, d', o.mono (by omega), ?_, ot, G, rfl⟩
    have : v = 0 ∨ v = 1 ∨ v = 2 := by omega
    rcases this with rfl | rfl | rfl
    · exact T3.F.mono (n := 195 ^ 2) (f.up (e := 65 ^ 2) (by decide)) (by decide)
    · exact T3.F.mono (n := 195 ^ 2) (f.up (e := 65) (by decide)) (by decide)
    · exact f

/-! ### a stretch is the same as itself -/
theorem same_root (n : Nat) (a b c : Rat) : m__law_same (n + 3) [.tup [eF a, eF b, eF c], .tup [eF a, eF b, eF c]] = some (.bl true) :=
  same_tup (fun d hd => by
    simp only [List.mem_cons, List.not_mem_nil, or_false] at hd
    rcases hd with rfl | rfl | rfl <;> exact same_eF _ _) (by simp) rfl
theorem same_ball (a b d : Rat) : m__law_same 12 [ballD a b d, ballD a b d] = some (.bl true) := by
  unfold ballD
  split
  · exact same_tup (n := 11) (fun d hd => by
      simp only [List.mem_cons, List.not_mem_nil, or_false] at hd
      rcases hd with rfl | rfl | rfl | rfl <;> first | exact same_root 8 _ _ _ | exact same_int _ _) (by simp) rfl
  · exact same_non _
theorem same_half (a b : Rat) : m__law_same 12 [halfD a b, halfD a b] = some (.bl true) := by
  unfold halfD
  split
  · split
    · exact same_tup (n := 11) (fun d hd => by
        simp only [List.mem_cons, List.not_mem_nil, or_false] at hd
        rcases hd with rfl | rfl | rfl | rfl <;> exact same_non _) (by simp) rfl
    · exact same_non _
  · split
    · exact same_tup (n := 11) (fun d hd => by
        simp only [List.mem_cons, List.not_mem_nil, or_false] at hd
        rcases hd with rfl | rfl | rfl | rfl <;> first | exact same_non _ | exact same_int _ _ | exact same_mom 8 _) (by simp) rfl
    · exact same_tup (n := 11) (fun d hd => by
        simp only [List.mem_cons, List.not_mem_nil, or_false] at hd
        rcases hd with rfl | rfl | rfl | rfl <;> first | exact same_non _ | exact same_int _ _ | exact same_mom 8 _) (by simp) rfl
theorem same_leaf (F : Fm) (t : T3) (s p w : P3) : m__law_same 12 [leafD F t s p w, leafD F t s p w] = some (.bl true) := by
  cases F with
  | box lo hi => exact same_met _
  | half f c => exact same_half _ _
  | ball m r => exact same_ball _ _ _
theorem sq_nn (x : Rat) : 0 ≤ x * x := by
  rcases Rat.le_total (a := 0) (b := x) with h | h
  · exact Rat.mul_nonneg h h
  · have := Rat.mul_nonneg (show 0 ≤ -x by grind) (show 0 ≤ -x by grind)
    grind
theorem dot_ne {w : P3} (h : w.ne) : w.dot w ≠ 0 := fun z => by
  have a := sq_nn w.x
  have b := sq_nn w.y
  have c := sq_nn w.z
  unfold P3.dot at z
  have ex : w.x * w.x = 0 := by grind
  have ey : w.y * w.y = 0 := by grind
  have ez : w.z * w.z = 0 := by grind
  exact h ⟨by simpa [Rat.mul_eq_zero] using ex, by simpa [Rat.mul_eq_zero] using ey, by simpa [Rat.mul_eq_zero] using ez⟩

theorem there_e {m n l : Nat} {t : T3} {s p : P3} (ht : t.B m) (hp : p.B n) (hs : s.B l) (h : m + n ≤ 1000) (hl : l ≤ 1000) : m__law_there [eT t, eP s, eP p] = some (eP ((t.app p).add s)) := by
  have d1 := ldot_e ht.1 hp (by omega)
  have d2 := ldot_e ht.2.1 hp (by omega)
  have d3 := ldot_e ht.2.2 hp (by omega)
  have a1 := ladd_e (Rb.dot ht.1 hp) hs.1 (by omega)
  have a2 := ladd_e (Rb.dot ht.2.1 hp) hs.2.1 (by omega)
  have a3 := ladd_e (Rb.dot ht.2.2 hp) hs.2.2 (by omega)
  rw [e__law_there _ _ _ rfl]
  unfold b__law_there
  simp only [↓ev_V, ↓ev_C, ↓ev_O, ↓ev_U, ↓ev_Nil, ↓ev_Cons, ↓ev_L, ↓ev_If, ↓ev_tV, ↓ev_tTr, ↓ev_tAn, ↓ev_tOr, ↓ev_tNo, ↓ev_NotB, ↓ev_AnB, ↓ev_OrB, ↓ev_Tup, ↓ev_Lst, ↓ev_CP, ↓ev_ML, ↓ev_Sli, ↓ev_oN, ↓ev_oS, ↓ev_Ch, ↓ev_gN, ↓ev_gsNil, ↓ev_gsCons, ↓ev_gT, ↓ev_Seq, ↓ev_Asg, ↓ev_Par, ↓ev_Ret, ↓ev_Drop, ↓ev_sIf, ↓ev_Next, ↓ev_Brk, ↓ev_Cont, ↓ev_RetN, ↓ev_Sub, ↓ev_For, ↓ev_body, ↓ev_iE, ↓ev_iR1, ↓ev_iR2, ↓ev_iZ, ↓ev_iEn, ↓ev_item, ↓ev_Lc, ↓ev_Yes, ↓ev_Par3, ↓ev_As2, ↓ev_As4, ↓ev_CV, ↓ev_Fld, ↓ev_Mk, ↓ev_Mk0, ↓ev_Mt, ↓ev_ForM, ↓ev_bodyM, ↓ev_gTmT, ↓ev_gTmR, ↓ev_AsgM, ↓ev_Star, ↓ev_Dc, ↓ev_iRv, kForM_e, kAsgM_e, kSt1_e, kSt2_e, kSt3_e, seqT, seqRf, popRf, insRf, inE, notInE, kDc_e, kRv_e, revT, revL, vOf_e, kO_e, kO2_e, kU_e, kCons_e, kCons2_e, kL_e, kIf_t, kIf_f, kB_e, kTr_e, kTr2_e, kAn_t, kAn_f, kOr_t, kOr_f, kNo_e, kNotB_e, kAnB_t, kAnB_f, kOrB_t, kOrB_f, kTup_e, kLst_e, kCP_e, kD_e, kML_e, kML2_e, kS1_e, kS2_e, kS3_e, kI_e, kCh1_e, kCh2_e, kCh3_t, kCh3_f, kAsg_e, kNx_e, kRet_e, kDrop_e, kSif_t, kSif_f, kSub1_e, kSub2_e, kSub3_e, kNxM_e, kFor_e, kBody_e, kIE_e, kSrc_e, kR1_e, kR2_e, kR2b_e, kZ1_e, kZ2_e, kEn_e, kMap_e, kMap2_e, kIt1_e, kIt2_t, kIt2_f, kSome_e, kLc_e, kLc2_e, kGc_e, par3_e, kAs2_e, kAs3_e, kAs4_e, kAs5_e, kAs6_e, fnOf2_e, fnV_e, kCV_e, kFld1_e, kFld2_e, kMk_e, kMk2_e, kMt_e, kMt2_e, kMt3_e, gFldE, setFE, metE, insAt_zero, insAt_succ, ob_s, ob_n, then_nx, then_rt, then_bk, then_ct, par2_e, turn_nx, turn_ct, turn_bk, turn_rt, runT_nil, runT_cons, mapT_nil, mapT_cons, finP_nx, finM_rt, finM_nx, addE, subE, negE, cmpE, ixT, truI, truB, at0, at1, at2, at3, List.getElem?_cons_zero, List.getElem?_cons_succ, List.set_cons_zero, List.set_cons_succ, List.length_cons, List.length_nil, Nat.reduceAdd, Nat.reduceLeDiff, if_true, if_false, reduceIte, reduceCtorEq, id_eq, Bool.not_true, Bool.not_false, Bool.false_eq_true, and_self, Int.reduceLE, Int.reduceLT, Int.reduceNeg, decide_true, decide_false, Option.toList_some, Option.toList_none, List.cons_append, List.nil_append, ixRf, tupRf, lenRf, listRf, isLstRf, appRf, revRf, setRf, itemsRf, itemsT, itemsL, zipT, zipRf, allRf, anyRf, sumRf, tupT, slRf, isiE, t2E, lenT, lstAt_zero, lstAt_succ, Option.isSome_some, Nat.reduceLT, Bool.or_true, Bool.or_false, Bool.true_or, Bool.false_or, gIsN, gNotN, D.isNon, wipeD, upto3, ix_eT0, ix_eT1, ix_eT2, ix_eP0, ix_eP1, ix_eP2, d1, d2, d3, a1, a2, a3]
  exact finP_rt _ _ rfl
def Iv36 (k : Dk6) (i : Nat) (ρ : Rho) (M : Mem) : Prop := ∃ d rest x0 x4 x5 x6 x7 x8 x9 x10 x11 x12 x13 x14 x15 x16 x17, d.O3 (70 * (4 - i)) ∧ rest.all (Cell.lo 0) = true ∧ M = k.M d ++ rest ∧ ρ = [x0, some (.rf k.s), some (eT id3), some (eP no3), x4, x5, x6, x7, x8, x9, x10, x11, x12, x13, x14, x15, x16, x17, none, none]
theorem law_true (ns : List Int) (hl : ns.length ≤ 63) : ∃ M, m_law [.rol (ns.map D.int)] [] = some (.bl true, M) := by
  have h := dk3_ok ns
  generalize hk : dk3 ns = k at h
  have st := open_e ns hl
  rw [hk] at st
  have L : ∀ d, List.length (k.M d) = k.B.length := fun d => Dk6.len
  suffices W (m_law [.rol (ns.map D.int)] []) fun y => ∃ M, y = (.bl true, M) by
    obtain ⟨y, e, M, rfl⟩ := this
    exact ⟨M, e⟩
  rw [e_law]
  unfold b_law
  have tn : D.tup [eF 0, eF 0, eF 0] = eP no3 := rfl
  simp only [↓ev_V, ↓ev_C, ↓ev_O, ↓ev_U, ↓ev_Nil, ↓ev_Cons, ↓ev_L, ↓ev_If, ↓ev_tV, ↓ev_tTr, ↓ev_tAn, ↓ev_tOr, ↓ev_tNo, ↓ev_NotB, ↓ev_AnB, ↓ev_OrB, ↓ev_Tup, ↓ev_Lst, ↓ev_CP, ↓ev_ML, ↓ev_Sli, ↓ev_oN, ↓ev_oS, ↓ev_Ch, ↓ev_gN, ↓ev_gsNil, ↓ev_gsCons, ↓ev_gT, ↓ev_Seq, ↓ev_Asg, ↓ev_Par, ↓ev_Ret, ↓ev_Drop, ↓ev_sIf, ↓ev_Next, ↓ev_Brk, ↓ev_Cont, ↓ev_RetN, ↓ev_Sub, ↓ev_For, ↓ev_body, ↓ev_iE, ↓ev_iR1, ↓ev_iR2, ↓ev_iZ, ↓ev_iEn, ↓ev_item, ↓ev_Lc, ↓ev_Yes, ↓ev_Par3, ↓ev_As2, ↓ev_As4, ↓ev_CV, ↓ev_Fld, ↓ev_Mk, ↓ev_Mk0, ↓ev_Mt, ↓ev_ForM, ↓ev_bodyM, ↓ev_gTmT, ↓ev_gTmR, ↓ev_AsgM, ↓ev_Star, ↓ev_Dc, ↓ev_iRv, kForM_e, kAsgM_e, kSt1_e, kSt2_e, kSt3_e, seqT, seqRf, popRf, insRf, inE, notInE, kDc_e, kRv_e, revT, revL, vOf_e, kO_e, kO2_e, kU_e, kCons_e, kCons2_e, kL_e, kIf_t, kIf_f, kB_e, kTr_e, kTr2_e, kAn_t, kAn_f, kOr_t, kOr_f, kNo_e, kNotB_e, kAnB_t, kAnB_f, kOrB_t, kOrB_f, kTup_e, kLst_e, kCP_e, kD_e, kML_e, kML2_e, kS1_e, kS2_e, kS3_e, kI_e, kCh1_e, kCh2_e, kCh3_t, kCh3_f, kAsg_e, kNx_e, kRet_e, kDrop_e, kSif_t, kSif_f, kSub1_e, kSub2_e, kSub3_e, kNxM_e, kFor_e, kBody_e, kIE_e, kSrc_e, kR1_e, kR2_e, kR2b_e, kZ1_e, kZ2_e, kEn_e, kMap_e, kMap2_e, kIt1_e, kIt2_t, kIt2_f, kSome_e, kLc_e, kLc2_e, kGc_e, par3_e, kAs2_e, kAs3_e, kAs4_e, kAs5_e, kAs6_e, fnOf2_e, fnV_e, kCV_e, kFld1_e, kFld2_e, kMk_e, kMk2_e, kMt_e, kMt2_e, kMt3_e, gFldE, setFE, metE, insAt_zero, insAt_succ, ob_s, ob_n, then_nx, then_rt, then_bk, then_ct, par2_e, turn_nx, turn_ct, turn_bk, turn_rt, runT_nil, runT_cons, mapT_nil, mapT_cons, finP_nx, finM_rt, finM_nx, addE, subE, negE, cmpE, ixT, truI, truB, at0, at1, at2, at3, List.getElem?_cons_zero, List.getElem?_cons_succ, List.set_cons_zero, List.set_cons_succ, List.length_cons, List.length_nil, Nat.reduceAdd, Nat.reduceLeDiff, if_true, if_false, reduceIte, reduceCtorEq, id_eq, Bool.not_true, Bool.not_false, Bool.false_eq_true, and_self, Int.reduceLE, Int.reduceLT, Int.reduceNeg, decide_true, decide_false, Option.toList_some, Option.toList_none, List.cons_append, List.nil_append, ixRf, tupRf, lenRf, listRf, isLstRf, appRf, revRf, setRf, itemsRf, itemsT, itemsL, zipT, zipRf, allRf, anyRf, sumRf, tupT, slRf, isiE, t2E, lenT, lstAt_zero, lstAt_succ, Option.isSome_some, Nat.reduceLT, Bool.or_true, Bool.or_false, Bool.true_or, Bool.false_or, gIsN, gNotN, D.isNon, wipeD, st, eF0, eF1', tupId, tn]
  refine W.cut (fun y => ∃ M, y = (.rt (.bl true), M)) ?_ (fun y ⟨M, e⟩ => by
    subst e
    exact W.ret ⟨_, rfl⟩)
  refine W.run (Iv36 k) ⟨d30, [], _, _, _, _, _, _, _, _, _, _, _, _, _, _, _, d30_ok.mono (by decide), rfl, by simp, rfl⟩ (fun _ _ _ _ => trivial) ?_ (fun ρ' M' _ => by
    simp only [↓ev_V, ↓ev_C, ↓ev_O, ↓ev_U, ↓ev_Nil, ↓ev_Cons, ↓ev_L, ↓ev_If, ↓ev_tV, ↓ev_tTr, ↓ev_tAn, ↓ev_tOr, ↓ev_tNo, ↓ev_NotB, ↓ev_AnB, ↓ev_OrB, ↓ev_Tup, ↓ev_Lst, ↓ev_CP, ↓ev_ML, ↓ev_Sli, ↓ev_oN, ↓ev_oS, ↓ev_Ch, ↓ev_gN, ↓ev_gsNil, ↓ev_gsCons, ↓ev_gT, ↓ev_Seq, ↓ev_Asg, ↓ev_Par, ↓ev_Ret, ↓ev_Drop, ↓ev_sIf, ↓ev_Next, ↓ev_Brk, ↓ev_Cont, ↓ev_RetN, ↓ev_Sub, ↓ev_For, ↓ev_body, ↓ev_iE, ↓ev_iR1, ↓ev_iR2, ↓ev_iZ, ↓ev_iEn, ↓ev_item, ↓ev_Lc, ↓ev_Yes, ↓ev_Par3, ↓ev_As2, ↓ev_As4, ↓ev_CV, ↓ev_Fld, ↓ev_Mk, ↓ev_Mk0, ↓ev_Mt, ↓ev_ForM, ↓ev_bodyM, ↓ev_gTmT, ↓ev_gTmR, ↓ev_AsgM, ↓ev_Star, ↓ev_Dc, ↓ev_iRv, kForM_e, kAsgM_e, kSt1_e, kSt2_e, kSt3_e, seqT, seqRf, popRf, insRf, inE, notInE, kDc_e, kRv_e, revT, revL, vOf_e, kO_e, kO2_e, kU_e, kCons_e, kCons2_e, kL_e, kIf_t, kIf_f, kB_e, kTr_e, kTr2_e, kAn_t, kAn_f, kOr_t, kOr_f, kNo_e, kNotB_e, kAnB_t, kAnB_f, kOrB_t, kOrB_f, kTup_e, kLst_e, kCP_e, kD_e, kML_e, kML2_e, kS1_e, kS2_e, kS3_e, kI_e, kCh1_e, kCh2_e, kCh3_t, kCh3_f, kAsg_e, kNx_e, kRet_e, kDrop_e, kSif_t, kSif_f, kSub1_e, kSub2_e, kSub3_e, kNxM_e, kFor_e, kBody_e, kIE_e, kSrc_e, kR1_e, kR2_e, kR2b_e, kZ1_e, kZ2_e, kEn_e, kMap_e, kMap2_e, kIt1_e, kIt2_t, kIt2_f, kSome_e, kLc_e, kLc2_e, kGc_e, par3_e, kAs2_e, kAs3_e, kAs4_e, kAs5_e, kAs6_e, fnOf2_e, fnV_e, kCV_e, kFld1_e, kFld2_e, kMk_e, kMk2_e, kMt_e, kMt2_e, kMt3_e, gFldE, setFE, metE, insAt_zero, insAt_succ, ob_s, ob_n, then_nx, then_rt, then_bk, then_ct, par2_e, turn_nx, turn_ct, turn_bk, turn_rt, runT_nil, runT_cons, mapT_nil, mapT_cons, finP_nx, finM_rt, finM_nx, addE, subE, negE, cmpE, ixT, truI, truB, at0, at1, at2, at3, List.getElem?_cons_zero, List.getElem?_cons_succ, List.set_cons_zero, List.set_cons_succ, List.length_cons, List.length_nil, Nat.reduceAdd, Nat.reduceLeDiff, if_true, if_false, reduceIte, reduceCtorEq, id_eq, Bool.not_true, Bool.not_false, Bool.false_eq_true, and_self, Int.reduceLE, Int.reduceLT, Int.reduceNeg, decide_true, decide_false, Option.toList_some, Option.toList_none, List.cons_append, List.nil_append, ixRf, tupRf, lenRf, listRf, isLstRf, appRf, revRf, setRf, itemsRf, itemsT, itemsL, zipT, zipRf, allRf, anyRf, sumRf, tupT, slRf, isiE, t2E, lenT, lstAt_zero, lstAt_succ, Option.isSome_some, Nat.reduceLT, Bool.or_true, Bool.or_false, Bool.true_or, Bool.false_or, gIsN, gNotN, D.isNon, wipeD]
    exact W.ret ⟨M', rfl⟩)
  rintro j x hx ρ M ⟨d, rest, x0, x4, x5, x6, x7, x8, x9, x10, x11, x12, x13, x14, x15, x16, x17, hd, hr, rfl, rfl⟩
  have hj : j < 4 := (upto_get hx).1
  have hd : d.O3 (70 * (4 - (j + 1)) + 70) := hd.mono (by omega)
  generalize hbb : 70 * (4 - (j + 1)) = b at hd
  obtain ⟨_, e1, F, d1, o1, bF, okF, rfl⟩ := form_w h (b := b + 55) hd hr
  obtain ⟨_, e2, t, d2, o2, fT, oT, rfl⟩ := turn_w h (b := b + 45) o1 hr
  obtain ⟨s, d3, o3, ns, e3⟩ := point_f h (b := b + 39) o2 (far := 3) (by decide) (by decide)
  obtain ⟨p, d4, o4, np, e4⟩ := point_f h (b := b + 33) o3 (far := 4) (by decide) (by decide)
  obtain ⟨w, d5, o5, nw, wne, e5⟩ := way_f h (b := b + 22) o4 (far := 3) (by decide) (by decide)
  obtain ⟨_, e6, O, d6, o6, fO, oO, rfl⟩ := turn_w h (b := b + 12) o5 hr
  obtain ⟨m, d7, o7, nm, e7⟩ := point_f h (b := b + 6) o6 (far := 2) (by decide) (by decide)
  have hz := dot_ne wne
  have bT : t.B 20 := fT.rb (by decide) (by decide) (by decide)
  have bO : O.B 20 := fO.rb (by decide) (by decide) (by decide)
  have q1 : ((t.app p).add s).F (65 ^ 2 * 30) (3 * (195 ^ 2 * 180) + 180 * 65 ^ 2) := P3.F.add (by decide) (T3.F.app (by decide) (by decide) fT np.f) (ns.f.up (e := 65 ^ 2) (by decide))
  have q2 : (t.app w).F (65 ^ 2 * 30) (3 * (195 ^ 2 * 180)) := T3.F.app (by decide) (by decide) fT nw.f
  have q3 : ((O.app ((t.app p).add s)).add m).F (65 ^ 2 * (65 ^ 2 * 30)) (3 * (195 ^ 2 * (3 * (195 ^ 2 * 180) + 180 * 65 ^ 2)) + 180 * 65 ^ 4) := P3.F.add (by decide) (T3.F.app (by decide) (by decide) fO q1) (nm.f.up (e := 65 ^ 4) (by decide))
  have q4 : (O.app (t.app w)).F (65 ^ 2 * (65 ^ 2 * 30)) (3 * (195 ^ 2 * (3 * (195 ^ 2 * 180)))) := T3.F.app (by decide) (by decide) fO q2
  have q5 : ((O.app s).add m).F (65 ^ 2 * 30) (3 * (195 ^ 2 * 180) + 180 * 65 ^ 2) := P3.F.add (by decide) (T3.F.app (by decide) (by decide) fO ns.f) (nm.f.up (e := 65 ^ 2) (by decide))
  have q6 : (O.mul t).F (65 ^ 2 * 65 ^ 2) (3 * (195 ^ 2 * 195 ^ 2)) := T3.F.mul (by decide) (by decide) fO fT
  have c1 : ((t.app p).add s).B 100 := q1.rb (by decide) (by decide) (by decide)
  have c2 : (t.app w).B 100 := q2.rb (by decide) (by decide) (by decide)
  have c3 : ((O.app ((t.app p).add s)).add m).B 100 := q3.rb (by decide) (by decide) (by decide)
  have c4 : (O.app (t.app w)).B 100 := q4.rb (by decide) (by decide) (by decide)
  have c5 : ((O.app s).add m).B 100 := q5.rb (by decide) (by decide) (by decide)
  have c6 : (O.mul t).B 60 := q6.rb (by decide) (by decide) (by decide)
  have n3 : no3.B 100 := no3_B.mono (by decide)
  have i3 : id3.B 60 := ⟨id3_B.1.mono (by decide), id3_B.2.1.mono (by decide), id3_B.2.2.mono (by decide)⟩
  have tb : t.B 60 := ⟨bT.1.mono (by decide), bT.2.1.mono (by decide), bT.2.2.mono (by decide)⟩
  have g1 := leaf_any (nm := "d") i3 n3 (np.b.mono (by decide)) (nw.b.mono (by decide)) bF hz
  have g2 := leaf_any (nm := "d") tb (ns.b.mono (by decide)) c1 c2 bF (by rw [oT]; exact hz)
  rw [leaf_carried F oT] at g2
  have g3 := leaf_any (nm := "e") c6 c5 c3 c4 bF (by rw [oO, oT]; exact hz)
  have eqp : (O.app ((t.app p).add s)).add m = ((O.mul t).app p).add ((O.app s).add m) := by rw [app_add, mul_app, add_assoc3]
  have eqw : O.app (t.app w) = (O.mul t).app w := by rw [mul_app]
  have g3' : leafD F (O.mul t) ((O.app s).add m) ((O.app ((t.app p).add s)).add m) (O.app (t.app w)) = leafD F id3 no3 p w := by rw [eqp, eqw, leaf_carried F (oO.mul oT)]
  rw [g3'] at g3
  have r1 := there_e (s := s) bT np.b ns.b (by decide) (by decide)
  have r2 := there_e bT nw.b no3_B (by decide) (by decide)
  rw [add_no3] at r2
  have r3 := there_e bO c1 nm.b (by decide) (by decide)
  have r4 := there_e bO c2 no3_B (by decide) (by decide)
  rw [add_no3] at r4
  have r5 := there_e bO ns.b nm.b (by decide) (by decide)
  have sm := same_leaf F id3 no3 p w
  have lf1 : D.tup [.str "d", eFm F, eT id3, eP no3] = eLeafN "d" (eFm F) id3 no3 := rfl
  have lf2 : D.tup [.str "d", eFm F, eT t, eP s] = eLeafN "d" (eFm F) t s := rfl
  have lf3 : D.tup [.str "e", eFm F, eT (O.mul t), eP ((O.app s).add m)] = eLeafN "e" (eFm F) (O.mul t) ((O.app s).add m) := rfl
  have bC := bT.cols
  have ld := fun {p q : P3} (hp : p.B 20) (hq : q.B 20) => (ldot_e hp hq (by decide)).trans (by rw [dot_comm])
  have k1 := ld bO.1 bC.1
  have k2 := ld bO.1 bC.2.1
  have k3 := ld bO.1 bC.2.2
  have k4 := ld bO.2.1 bC.1
  have k5 := ld bO.2.1 bC.2.1
  have k6 := ld bO.2.1 bC.2.2
  have k7 := ld bO.2.2 bC.1
  have k8 := ld bO.2.2 bC.2.1
  have k9 := ld bO.2.2 bC.2.2
  have m1 : D.tup [D.tup [eF (t.cols.a.dot O.a), eF (t.cols.b.dot O.a), eF (t.cols.c.dot O.a)], D.tup [eF (t.cols.a.dot O.b), eF (t.cols.b.dot O.b), eF (t.cols.c.dot O.b)], D.tup [eF (t.cols.a.dot O.c), eF (t.cols.b.dot O.c), eF (t.cols.c.dot O.c)]] = eT (O.mul t) := rfl
  have zA := fun d X i => atB (rest := rest) (L d) X i
  have z0 := fun d X => atB0 (rest := rest) (L d) X
  have sA := fun d X i c => setB (rest := rest) (L d) X i c
  have s0 := fun d X c => setB0 (rest := rest) (L d) X c
  have gA := fun d X i => getB (rest := rest) (L d) X i
  simp only [↓ev_V, ↓ev_C, ↓ev_O, ↓ev_U, ↓ev_Nil, ↓ev_Cons, ↓ev_L, ↓ev_If, ↓ev_tV, ↓ev_tTr, ↓ev_tAn, ↓ev_tOr, ↓ev_tNo, ↓ev_NotB, ↓ev_AnB, ↓ev_OrB, ↓ev_Tup, ↓ev_Lst, ↓ev_CP, ↓ev_ML, ↓ev_Sli, ↓ev_oN, ↓ev_oS, ↓ev_Ch, ↓ev_gN, ↓ev_gsNil, ↓ev_gsCons, ↓ev_gT, ↓ev_Seq, ↓ev_Asg, ↓ev_Par, ↓ev_Ret, ↓ev_Drop, ↓ev_sIf, ↓ev_Next, ↓ev_Brk, ↓ev_Cont, ↓ev_RetN, ↓ev_Sub, ↓ev_For, ↓ev_body, ↓ev_iE, ↓ev_iR1, ↓ev_iR2, ↓ev_iZ, ↓ev_iEn, ↓ev_item, ↓ev_Lc, ↓ev_Yes, ↓ev_Par3, ↓ev_As2, ↓ev_As4, ↓ev_CV, ↓ev_Fld, ↓ev_Mk, ↓ev_Mk0, ↓ev_Mt, ↓ev_ForM, ↓ev_bodyM, ↓ev_gTmT, ↓ev_gTmR, ↓ev_AsgM, ↓ev_Star, ↓ev_Dc, ↓ev_iRv, kForM_e, kAsgM_e, kSt1_e, kSt2_e, kSt3_e, seqT, seqRf, popRf, insRf, inE, notInE, kDc_e, kRv_e, revT, revL, vOf_e, kO_e, kO2_e, kU_e, kCons_e, kCons2_e, kL_e, kIf_t, kIf_f, kB_e, kTr_e, kTr2_e, kAn_t, kAn_f, kOr_t, kOr_f, kNo_e, kNotB_e, kAnB_t, kAnB_f, kOrB_t, kOrB_f, kTup_e, kLst_e, kCP_e, kD_e, kML_e, kML2_e, kS1_e, kS2_e, kS3_e, kI_e, kCh1_e, kCh2_e, kCh3_t, kCh3_f, kAsg_e, kNx_e, kRet_e, kDrop_e, kSif_t, kSif_f, kSub1_e, kSub2_e, kSub3_e, kNxM_e, kFor_e, kBody_e, kIE_e, kSrc_e, kR1_e, kR2_e, kR2b_e, kZ1_e, kZ2_e, kEn_e, kMap_e, kMap2_e, kIt1_e, kIt2_t, kIt2_f, kSome_e, kLc_e, kLc2_e, kGc_e, par3_e, kAs2_e, kAs3_e, kAs4_e, kAs5_e, kAs6_e, fnOf2_e, fnV_e, kCV_e, kFld1_e, kFld2_e, kMk_e, kMk2_e, kMt_e, kMt2_e, kMt3_e, gFldE, setFE, metE, insAt_zero, insAt_succ, ob_s, ob_n, then_nx, then_rt, then_bk, then_ct, par2_e, turn_nx, turn_ct, turn_bk, turn_rt, runT_nil, runT_cons, mapT_nil, mapT_cons, finP_nx, finM_rt, finM_nx, addE, subE, negE, cmpE, ixT, truI, truB, at0, at1, at2, at3, List.getElem?_cons_zero, List.getElem?_cons_succ, List.set_cons_zero, List.set_cons_succ, List.length_cons, List.length_nil, Nat.reduceAdd, Nat.reduceLeDiff, if_true, if_false, reduceIte, reduceCtorEq, id_eq, Bool.not_true, Bool.not_false, Bool.false_eq_true, and_self, Int.reduceLE, Int.reduceLT, Int.reduceNeg, decide_true, decide_false, Option.toList_some, Option.toList_none, List.cons_append, List.nil_append, ixRf, tupRf, lenRf, listRf, isLstRf, appRf, revRf, setRf, itemsRf, itemsT, itemsL, zipT, zipRf, allRf, anyRf, sumRf, tupT, slRf, isiE, t2E, lenT, lstAt_zero, lstAt_succ, Option.isSome_some, Nat.reduceLT, Bool.or_true, Bool.or_false, Bool.true_or, Bool.false_or, gIsN, gNotN, D.isNon, wipeD, e1, e2, e3 rest hr, e4 rest hr, e5 rest hr, lf1, g1, r1, r2, lf2, g2, sm]
  simp only [↓ev_V, ↓ev_C, ↓ev_O, ↓ev_U, ↓ev_Nil, ↓ev_Cons, ↓ev_L, ↓ev_If, ↓ev_tV, ↓ev_tTr, ↓ev_tAn, ↓ev_tOr, ↓ev_tNo, ↓ev_NotB, ↓ev_AnB, ↓ev_OrB, ↓ev_Tup, ↓ev_Lst, ↓ev_CP, ↓ev_ML, ↓ev_Sli, ↓ev_oN, ↓ev_oS, ↓ev_Ch, ↓ev_gN, ↓ev_gsNil, ↓ev_gsCons, ↓ev_gT, ↓ev_Seq, ↓ev_Asg, ↓ev_Par, ↓ev_Ret, ↓ev_Drop, ↓ev_sIf, ↓ev_Next, ↓ev_Brk, ↓ev_Cont, ↓ev_RetN, ↓ev_Sub, ↓ev_For, ↓ev_body, ↓ev_iE, ↓ev_iR1, ↓ev_iR2, ↓ev_iZ, ↓ev_iEn, ↓ev_item, ↓ev_Lc, ↓ev_Yes, ↓ev_Par3, ↓ev_As2, ↓ev_As4, ↓ev_CV, ↓ev_Fld, ↓ev_Mk, ↓ev_Mk0, ↓ev_Mt, ↓ev_ForM, ↓ev_bodyM, ↓ev_gTmT, ↓ev_gTmR, ↓ev_AsgM, ↓ev_Star, ↓ev_Dc, ↓ev_iRv, kForM_e, kAsgM_e, kSt1_e, kSt2_e, kSt3_e, seqT, seqRf, popRf, insRf, inE, notInE, kDc_e, kRv_e, revT, revL, vOf_e, kO_e, kO2_e, kU_e, kCons_e, kCons2_e, kL_e, kIf_t, kIf_f, kB_e, kTr_e, kTr2_e, kAn_t, kAn_f, kOr_t, kOr_f, kNo_e, kNotB_e, kAnB_t, kAnB_f, kOrB_t, kOrB_f, kTup_e, kLst_e, kCP_e, kD_e, kML_e, kML2_e, kS1_e, kS2_e, kS3_e, kI_e, kCh1_e, kCh2_e, kCh3_t, kCh3_f, kAsg_e, kNx_e, kRet_e, kDrop_e, kSif_t, kSif_f, kSub1_e, kSub2_e, kSub3_e, kNxM_e, kFor_e, kBody_e, kIE_e, kSrc_e, kR1_e, kR2_e, kR2b_e, kZ1_e, kZ2_e, kEn_e, kMap_e, kMap2_e, kIt1_e, kIt2_t, kIt2_f, kSome_e, kLc_e, kLc2_e, kGc_e, par3_e, kAs2_e, kAs3_e, kAs4_e, kAs5_e, kAs6_e, fnOf2_e, fnV_e, kCV_e, kFld1_e, kFld2_e, kMk_e, kMk2_e, kMt_e, kMt2_e, kMt3_e, gFldE, setFE, metE, insAt_zero, insAt_succ, ob_s, ob_n, then_nx, then_rt, then_bk, then_ct, par2_e, turn_nx, turn_ct, turn_bk, turn_rt, runT_nil, runT_cons, mapT_nil, mapT_cons, finP_nx, finM_rt, finM_nx, addE, subE, negE, cmpE, ixT, truI, truB, at0, at1, at2, at3, List.getElem?_cons_zero, List.getElem?_cons_succ, List.set_cons_zero, List.set_cons_succ, List.length_cons, List.length_nil, Nat.reduceAdd, Nat.reduceLeDiff, if_true, if_false, reduceIte, reduceCtorEq, id_eq, Bool.not_true, Bool.not_false, Bool.false_eq_true, and_self, Int.reduceLE, Int.reduceLT, Int.reduceNeg, decide_true, decide_false, Option.toList_some, Option.toList_none, List.cons_append, List.nil_append, ixRf, tupRf, lenRf, listRf, isLstRf, appRf, revRf, setRf, itemsRf, itemsT, itemsL, zipT, zipRf, allRf, anyRf, sumRf, tupT, slRf, isiE, t2E, lenT, lstAt_zero, lstAt_succ, Option.isSome_some, Nat.reduceLT, Bool.or_true, Bool.or_false, Bool.true_or, Bool.false_or, gIsN, gNotN, D.isNon, wipeD, e6, e7 rest hr, L, List.append_assoc, List.length_append, z0, zA, s0, sA, upto3, itemsTt, ix_eP0, ix_eP1, ix_eP2, tupCa, tupCb, tupCc, k1, k2, k3, k4, k5, k6, k7, k8, k9, m1, r3, r4, r5, lf3, g3, sm]
  exact W.ret ⟨_, _, rfl, d7, _, _, _, _, _, _, _, _, _, _, _, _, _, _, _, _, o7.mono (by omega), all_app hr rfl, rfl, rfl⟩

def topS (i : Nat) : Stmt := PySem.Challenge.pw_scenetongue_k36_whole_leaves_turned.main.body.getD i (.Pass ⟨0, 0, 0, 0⟩)
abbrev s_frac : Stmt := topS 2
abbrev nm_frac : List Str := ["above", "below", "shared", "rest"]
theorem sc_frac : FnScope nm_frac ["above", "below"] (defScope s_frac) := ⟨rfl, rfl, rfl, by decide +kernel, rfl, by decide +kernel, by decide +kernel⟩
abbrev s_plus : Stmt := topS 3
abbrev nm_plus : List Str := ["one", "other"]
theorem sc_plus : FnScope nm_plus ["one", "other"] (defScope s_plus) := ⟨rfl, rfl, rfl, by decide +kernel, rfl, by decide +kernel, by decide +kernel⟩
abbrev s_minus : Stmt := topS 4
abbrev nm_minus : List Str := ["one", "other"]
theorem sc_minus : FnScope nm_minus ["one", "other"] (defScope s_minus) := ⟨rfl, rfl, rfl, by decide +kernel, rfl, by decide +kernel, by decide +kernel⟩
abbrev s_times : Stmt := topS 5
abbrev nm_times : List Str := ["one", "other"]
theorem sc_times : FnScope nm_times ["one", "other"] (defScope s_times) := ⟨rfl, rfl, rfl, by decide +kernel, rfl, by decide +kernel, by decide +kernel⟩
abbrev s_over : Stmt := topS 6
abbrev nm_over : List Str := ["one", "other"]
theorem sc_over : FnScope nm_over ["one", "other"] (defScope s_over) := ⟨rfl, rfl, rfl, by decide +kernel, rfl, by decide +kernel, by decide +kernel⟩
abbrev s_sign : Stmt := topS 7
abbrev nm_sign : List Str := ["one"]
theorem sc_sign : FnScope nm_sign ["one"] (defScope s_sign) := ⟨rfl, rfl, rfl, by decide +kernel, rfl, by decide +kernel, by decide +kernel⟩
abbrev s_dot : Stmt := topS 8
abbrev nm_dot : List Str := ["one", "other", "above", "below", "mine", "yours", "part"]
theorem sc_dot : FnScope nm_dot ["one", "other"] (defScope s_dot) := ⟨rfl, rfl, rfl, by decide +kernel, rfl, by decide +kernel, by decide +kernel⟩
abbrev s_together : Stmt := topS 10
abbrev nm_together : List Str := ["one", "other"]
theorem sc_together : FnScope nm_together ["one", "other"] (defScope s_together) := ⟨rfl, rfl, rfl, by decide +kernel, rfl, by decide +kernel, by decide +kernel⟩
abbrev s_way_between : Stmt := topS 11
abbrev nm_way_between : List Str := ["one", "other"]
theorem sc_way_between : FnScope nm_way_between ["one", "other"] (defScope s_way_between) := ⟨rfl, rfl, rfl, by decide +kernel, rfl, by decide +kernel, by decide +kernel⟩
abbrev s_turned : Stmt := topS 12
abbrev nm_turned : List Str := ["turn", "way"]
theorem sc_turned : FnScope nm_turned ["turn", "way"] (defScope s_turned) := ⟨rfl, rfl, rfl, by decide +kernel, rfl, by decide +kernel, by decide +kernel⟩
abbrev s_columns_of : Stmt := topS 13
abbrev nm_columns_of : List Str := ["turn"]
theorem sc_columns_of : FnScope nm_columns_of ["turn"] (defScope s_columns_of) := ⟨rfl, rfl, rfl, by decide +kernel, rfl, by decide +kernel, by decide +kernel⟩
abbrev s_Whole_nought : Stmt := inClass (topS 15) 0
abbrev nm_Whole_nought : List Str := ["self"]
theorem sc_Whole_nought : FnScope nm_Whole_nought ["self"] (defScope s_Whole_nought) := ⟨rfl, rfl, rfl, by decide +kernel, rfl, by decide +kernel, by decide +kernel⟩
abbrev s_Whole_plus : Stmt := inClass (topS 15) 1
abbrev nm_Whole_plus : List Str := ["self", "one", "other"]
theorem sc_Whole_plus : FnScope nm_Whole_plus ["self", "one", "other"] (defScope s_Whole_plus) := ⟨rfl, rfl, rfl, by decide +kernel, rfl, by decide +kernel, by decide +kernel⟩
abbrev s_Whole_times : Stmt := inClass (topS 15) 2
abbrev nm_Whole_times : List Str := ["self", "one", "other"]
theorem sc_Whole_times : FnScope nm_Whole_times ["self", "one", "other"] (defScope s_Whole_times) := ⟨rfl, rfl, rfl, by decide +kernel, rfl, by decide +kernel, by decide +kernel⟩
abbrev s_Whole_scaled : Stmt := inClass (topS 15) 3
abbrev nm_Whole_scaled : List Str := ["self", "one", "by"]
theorem sc_Whole_scaled : FnScope nm_Whole_scaled ["self", "one", "by"] (defScope s_Whole_scaled) := ⟨rfl, rfl, rfl, by decide +kernel, rfl, by decide +kernel, by decide +kernel⟩
abbrev s_Whole_sign : Stmt := inClass (topS 15) 4
abbrev nm_Whole_sign : List Str := ["self", "one"]
theorem sc_Whole_sign : FnScope nm_Whole_sign ["self", "one"] (defScope s_Whole_sign) := ⟨rfl, rfl, rfl, by decide +kernel, rfl, by decide +kernel, by decide +kernel⟩
abbrev s_Rooted___init__ : Stmt := inClass (topS 16) 0
abbrev nm_Rooted___init__ : List Str := ["self", "below", "under"]
theorem sc_Rooted___init__ : FnScope nm_Rooted___init__ ["self", "below", "under"] (defScope s_Rooted___init__) := ⟨rfl, rfl, rfl, by decide +kernel, rfl, by decide +kernel, by decide +kernel⟩
abbrev s_Rooted_nought : Stmt := inClass (topS 16) 1
abbrev nm_Rooted_nought : List Str := ["self"]
theorem sc_Rooted_nought : FnScope nm_Rooted_nought ["self"] (defScope s_Rooted_nought) := ⟨rfl, rfl, rfl, by decide +kernel, rfl, by decide +kernel, by decide +kernel⟩
abbrev s_Rooted_lifted : Stmt := inClass (topS 16) 2
abbrev nm_Rooted_lifted : List Str := ["self", "one"]
theorem sc_Rooted_lifted : FnScope nm_Rooted_lifted ["self", "one"] (defScope s_Rooted_lifted) := ⟨rfl, rfl, rfl, by decide +kernel, rfl, by decide +kernel, by decide +kernel⟩
abbrev s_Rooted_plus : Stmt := inClass (topS 16) 3
abbrev nm_Rooted_plus : List Str := ["self", "one", "other"]
theorem sc_Rooted_plus : FnScope nm_Rooted_plus ["self", "one", "other"] (defScope s_Rooted_plus) := ⟨rfl, rfl, rfl, by decide +kernel, rfl, by decide +kernel, by decide +kernel⟩
abbrev s_Rooted_times : Stmt := inClass (topS 16) 4
abbrev nm_Rooted_times : List Str := ["self", "one", "other", "below", "rooted", "plain", "part"]
theorem sc_Rooted_times : FnScope nm_Rooted_times ["self", "one", "other"] (defScope s_Rooted_times) := ⟨rfl, rfl, rfl, by decide +kernel, rfl, by decide +kernel, by decide +kernel⟩
abbrev s_Rooted_scaled : Stmt := inClass (topS 16) 5
abbrev nm_Rooted_scaled : List Str := ["self", "one", "by"]
theorem sc_Rooted_scaled : FnScope nm_Rooted_scaled ["self", "one", "by"] (defScope s_Rooted_scaled) := ⟨rfl, rfl, rfl, by decide +kernel, rfl, by decide +kernel, by decide +kernel⟩
abbrev s_Rooted_sign : Stmt := inClass (topS 16) 6
abbrev nm_Rooted_sign : List Str := ["self", "one", "below", "plain", "part", "first", "second", "square", "left"]
theorem sc_Rooted_sign : FnScope nm_Rooted_sign ["self", "one"] (defScope s_Rooted_sign) := ⟨rfl, rfl, rfl, by decide +kernel, rfl, by decide +kernel, by decide +kernel⟩
abbrev s_compare : Stmt := topS 18
abbrev nm_compare : List Str := ["one", "other", "plain", "part", "under", "other_plain", "other_part", "other_under", "gap", "shared", "mine", "yours", "first", "second", "sum_of_two"]
theorem sc_compare : FnScope nm_compare ["one", "other"] (defScope s_compare) := ⟨rfl, rfl, rfl, by decide +kernel, rfl, by decide +kernel, by decide +kernel⟩
abbrev s_slabs_of : Stmt := topS 20
abbrev nm_slabs_of : List Str := ["leaf", "form", "turn", "slide", "way", "slabs", "axis", "off"]
theorem sc_slabs_of : FnScope nm_slabs_of ["leaf"] (defScope s_slabs_of) := ⟨rfl, rfl, rfl, by decide +kernel, rfl, by decide +kernel, by decide +kernel⟩
abbrev s_ball_of : Stmt := topS 21
abbrev nm_ball_of : List Str := ["leaf", "form", "turn", "slide"]
theorem sc_ball_of : FnScope nm_ball_of ["leaf"] (defScope s_ball_of) := ⟨rfl, rfl, rfl, by decide +kernel, rfl, by decide +kernel, by decide +kernel⟩
abbrev s_directed : Stmt := topS 24
abbrev nm_directed : List Str := ["towards", "to_low", "to_high", "slab"]
theorem sc_directed : FnScope nm_directed ["towards", "to_low", "to_high", "slab"] (defScope s_directed) := ⟨rfl, rfl, rfl, by decide +kernel, rfl, by decide +kernel, by decide +kernel⟩
abbrev s_met : Stmt := topS 25
abbrev nm_met : List Str := ["spans", "order", "begin", "end", "first", "last", "span"]
theorem sc_met : FnScope nm_met ["spans", "order"] (defScope s_met) := ⟨rfl, rfl, rfl, by decide +kernel, rfl, by decide +kernel, by decide +kernel⟩
abbrev s_flat_moment : Stmt := topS 27
abbrev nm_flat_moment : List Str := ["gap", "slope"]
theorem sc_flat_moment : FnScope nm_flat_moment ["gap", "slope"] (defScope s_flat_moment) := ⟨rfl, rfl, rfl, by decide +kernel, rfl, by decide +kernel, by decide +kernel⟩
abbrev s_slab_stretch : Stmt := topS 28
abbrev nm_slab_stretch : List Str := ["slab", "ray", "across", "low", "high", "start", "slope", "to_low", "to_high", "towards", "is_between"]
theorem sc_slab_stretch : FnScope nm_slab_stretch ["slab", "ray"] (defScope s_slab_stretch) := ⟨rfl, rfl, rfl, by decide +kernel, rfl, by decide +kernel, by decide +kernel⟩
abbrev s_ball_stretch : Stmt := topS 29
abbrev nm_ball_stretch : List Str := ["leaf", "ray", "middle", "radius", "place", "way", "gap", "a", "b", "c", "d", "halfway"]
theorem sc_ball_stretch : FnScope nm_ball_stretch ["leaf", "ray"] (defScope s_ball_stretch) := ⟨rfl, rfl, rfl, by decide +kernel, rfl, by decide +kernel, by decide +kernel⟩
abbrev s_leaf_stretch : Stmt := topS 30
abbrev nm_leaf_stretch : List Str := ["leaf", "ray", "slab"]
theorem sc_leaf_stretch : FnScope nm_leaf_stretch ["leaf", "ray"] (defScope s_leaf_stretch) := ⟨rfl, rfl, rfl, by decide +kernel, rfl, by decide +kernel, by decide +kernel⟩
abbrev s__law_open : Stmt := topS 32
abbrev nm__law_open : List Str := ["_law_script"]
theorem sc__law_open : FnScope nm__law_open ["_law_script"] (defScope s__law_open) := ⟨rfl, rfl, rfl, by decide +kernel, rfl, by decide +kernel, by decide +kernel⟩
abbrev s__law_pick : Stmt := topS 33
abbrev nm__law_pick : List Str := ["_law_deck", "_law_below", "_law_found", "_law_digits"]
theorem sc__law_pick : FnScope nm__law_pick ["_law_deck", "_law_below"] (defScope s__law_pick) := ⟨rfl, rfl, rfl, by decide +kernel, rfl, by decide +kernel, by decide +kernel⟩
abbrev s__law_same : Stmt := topS 35
abbrev nm__law_same : List Str := ["_law_found", "_law_due", "_law_one", "_law_other"]
theorem sc__law_same : FnScope nm__law_same ["_law_found", "_law_due"] (defScope s__law_same) := ⟨rfl, rfl, rfl, by decide +kernel, rfl, by decide +kernel, by decide +kernel⟩
abbrev s__law_fr : Stmt := topS 36
abbrev nm__law_fr : List Str := ["_law_above", "_law_below", "_law_one", "_law_other"]
theorem sc__law_fr : FnScope nm__law_fr ["_law_above", "_law_below"] (defScope s__law_fr) := ⟨rfl, rfl, rfl, by decide +kernel, rfl, by decide +kernel, by decide +kernel⟩
abbrev s__law_add : Stmt := topS 37
abbrev nm__law_add : List Str := ["_law_one", "_law_other"]
theorem sc__law_add : FnScope nm__law_add ["_law_one", "_law_other"] (defScope s__law_add) := ⟨rfl, rfl, rfl, by decide +kernel, rfl, by decide +kernel, by decide +kernel⟩
abbrev s__law_mul : Stmt := topS 39
abbrev nm__law_mul : List Str := ["_law_one", "_law_other"]
theorem sc__law_mul : FnScope nm__law_mul ["_law_one", "_law_other"] (defScope s__law_mul) := ⟨rfl, rfl, rfl, by decide +kernel, rfl, by decide +kernel, by decide +kernel⟩
abbrev s__law_dot : Stmt := topS 42
abbrev nm__law_dot : List Str := ["_law_one", "_law_other", "_law_found", "_law_here", "_law_there_here"]
theorem sc__law_dot : FnScope nm__law_dot ["_law_one", "_law_other"] (defScope s__law_dot) := ⟨rfl, rfl, rfl, by decide +kernel, rfl, by decide +kernel, by decide +kernel⟩
abbrev s__law_num : Stmt := topS 43
abbrev nm__law_num : List Str := ["_law_deck", "_law_far", "_law_below"]
theorem sc__law_num : FnScope nm__law_num ["_law_deck", "_law_far"] (defScope s__law_num) := ⟨rfl, rfl, rfl, by decide +kernel, rfl, by decide +kernel, by decide +kernel⟩
abbrev s__law_point : Stmt := topS 44
abbrev nm__law_point : List Str := ["_law_deck", "_law_far", "_law_k"]
theorem sc__law_point : FnScope nm__law_point ["_law_deck", "_law_far"] (defScope s__law_point) := ⟨rfl, rfl, rfl, by decide +kernel, rfl, by decide +kernel, by decide +kernel⟩
abbrev s__law_way : Stmt := topS 45
abbrev nm__law_way : List Str := ["_law_deck", "_law_far", "_law_found", "_law_k"]
theorem sc__law_way : FnScope nm__law_way ["_law_deck", "_law_far"] (defScope s__law_way) := ⟨rfl, rfl, rfl, by decide +kernel, rfl, by decide +kernel, by decide +kernel⟩
abbrev s__law_form : Stmt := topS 46
abbrev nm__law_form : List Str := ["_law_deck", "_law_way_here", "_law_low", "_law_wide", "_law_k", "_law_one", "_law_more"]
theorem sc__law_form : FnScope nm__law_form ["_law_deck"] (defScope s__law_form) := ⟨rfl, rfl, rfl, by decide +kernel, rfl, by decide +kernel, by decide +kernel⟩
abbrev s__law_turn : Stmt := topS 47
abbrev nm__law_turn : List Str := ["_law_deck", "_law_found", "_law_k", "_law_c", "_law_s", "_law_n", "_law_one", "_law_two", "_law_three", "_law_rows", "_law_sides", "_law_row", "_law_side"]
theorem sc__law_turn : FnScope nm__law_turn ["_law_deck"] (defScope s__law_turn) := ⟨rfl, rfl, rfl, by decide +kernel, rfl, by decide +kernel, by decide +kernel⟩
abbrev s__law_there : Stmt := topS 48
abbrev nm__law_there : List Str := ["_law_turn_here", "_law_slide", "_law_point_here", "_law_k"]
theorem sc__law_there : FnScope nm__law_there ["_law_turn_here", "_law_slide", "_law_point_here"] (defScope s__law_there) := ⟨rfl, rfl, rfl, by decide +kernel, rfl, by decide +kernel, by decide +kernel⟩
abbrev s_law : Stmt := topS 49
abbrev nm_law : List Str := ["_law_script", "_law_deck", "_law_still", "_law_none", "_law_k", "_law_form_here", "_law_turn_here", "_law_slide", "_law_place", "_law_way_here", "_law_due", "_law_ray", "_law_other", "_law_more", "_law_both", "_law_row", "_law_far", "_law_leaf", "_law_j", "_law_one"]
theorem sc_law : FnScope nm_law ["_law_script"] (defScope s_law) := ⟨rfl, rfl, rfl, by decide +kernel, rfl, by decide +kernel, by decide +kernel⟩
structure Tx (K : PySem.W.Frag) (mg : Str → Option Value) where
  a_NOUGHT : Addr
  g_NOUGHT : mg "NOUGHT" = some (.ref a_NOUGHT)
  k_NOUGHT : ∀ Γ as H, VR ⟨K, Γ⟩ as H (.ref a_NOUGHT) (.tup [(.int 0), (.int 1)])
  a_ALWAYS : Addr
  g_ALWAYS : mg "ALWAYS" = some (.ref a_ALWAYS)
  k_ALWAYS : ∀ Γ as H, VR ⟨K, Γ⟩ as H (.ref a_ALWAYS) (.tup [.non, .non, .non, .non])
  c_Whole : Addr
  cl_Whole : Cls K c_Whole
  g_Whole : mg "Whole" = some (.ref c_Whole)
  c_Rooted : Addr
  cl_Rooted : Cls K c_Rooted
  g_Rooted : mg "Rooted" = some (.ref c_Rooted)
  n_Rooted_below : NoAttr K c_Rooted "below"
  n_Rooted_under : NoAttr K c_Rooted "under"
  f_frac : Addr
  d_frac : FuncData
  F_frac : Fun K "frac" "frac" s_frac f_frac d_frac
  b_frac : Binds K d_frac ["above", "below"] []
  g_frac : mg "frac" = some (.ref f_frac)
  f_plus : Addr
  d_plus : FuncData
  F_plus : Fun K "plus" "plus" s_plus f_plus d_plus
  b_plus : Binds K d_plus ["one", "other"] []
  g_plus : mg "plus" = some (.ref f_plus)
  f_minus : Addr
  d_minus : FuncData
  F_minus : Fun K "minus" "minus" s_minus f_minus d_minus
  b_minus : Binds K d_minus ["one", "other"] []
  g_minus : mg "minus" = some (.ref f_minus)
  f_times : Addr
  d_times : FuncData
  F_times : Fun K "times" "times" s_times f_times d_times
  b_times : Binds K d_times ["one", "other"] []
  g_times : mg "times" = some (.ref f_times)
  f_over : Addr
  d_over : FuncData
  F_over : Fun K "over" "over" s_over f_over d_over
  b_over : Binds K d_over ["one", "other"] []
  g_over : mg "over" = some (.ref f_over)
  f_sign : Addr
  d_sign : FuncData
  F_sign : Fun K "sign" "sign" s_sign f_sign d_sign
  b_sign : Binds K d_sign ["one"] []
  g_sign : mg "sign" = some (.ref f_sign)
  f_dot : Addr
  d_dot : FuncData
  F_dot : Fun K "dot" "dot" s_dot f_dot d_dot
  b_dot : Binds K d_dot ["one", "other"] []
  g_dot : mg "dot" = some (.ref f_dot)
  f_together : Addr
  d_together : FuncData
  F_together : Fun K "together" "together" s_together f_together d_together
  b_together : Binds K d_together ["one", "other"] []
  g_together : mg "together" = some (.ref f_together)
  f_way_between : Addr
  d_way_between : FuncData
  F_way_between : Fun K "way_between" "way_between" s_way_between f_way_between d_way_between
  b_way_between : Binds K d_way_between ["one", "other"] []
  g_way_between : mg "way_between" = some (.ref f_way_between)
  f_turned : Addr
  d_turned : FuncData
  F_turned : Fun K "turned" "turned" s_turned f_turned d_turned
  b_turned : Binds K d_turned ["turn", "way"] []
  g_turned : mg "turned" = some (.ref f_turned)
  f_columns_of : Addr
  d_columns_of : FuncData
  F_columns_of : Fun K "columns_of" "columns_of" s_columns_of f_columns_of d_columns_of
  b_columns_of : Binds K d_columns_of ["turn"] []
  g_columns_of : mg "columns_of" = some (.ref f_columns_of)
  f_Whole_nought : Addr
  d_Whole_nought : FuncData
  F_Whole_nought : Fun K "nought" "Whole.nought" s_Whole_nought f_Whole_nought d_Whole_nought
  b_Whole_nought : Binds K d_Whole_nought ["self"] []
  M_Whole_nought : Meth K c_Whole "nought" f_Whole_nought
  f_Whole_plus : Addr
  d_Whole_plus : FuncData
  F_Whole_plus : Fun K "plus" "Whole.plus" s_Whole_plus f_Whole_plus d_Whole_plus
  b_Whole_plus : Binds K d_Whole_plus ["self", "one", "other"] []
  M_Whole_plus : Meth K c_Whole "plus" f_Whole_plus
  f_Whole_times : Addr
  d_Whole_times : FuncData
  F_Whole_times : Fun K "times" "Whole.times" s_Whole_times f_Whole_times d_Whole_times
  b_Whole_times : Binds K d_Whole_times ["self", "one", "other"] []
  M_Whole_times : Meth K c_Whole "times" f_Whole_times
  f_Whole_scaled : Addr
  d_Whole_scaled : FuncData
  F_Whole_scaled : Fun K "scaled" "Whole.scaled" s_Whole_scaled f_Whole_scaled d_Whole_scaled
  b_Whole_scaled : Binds K d_Whole_scaled ["self", "one", "by"] []
  M_Whole_scaled : Meth K c_Whole "scaled" f_Whole_scaled
  f_Whole_sign : Addr
  d_Whole_sign : FuncData
  F_Whole_sign : Fun K "sign" "Whole.sign" s_Whole_sign f_Whole_sign d_Whole_sign
  b_Whole_sign : Binds K d_Whole_sign ["self", "one"] []
  M_Whole_sign : Meth K c_Whole "sign" f_Whole_sign
  f_Rooted___init__ : Addr
  d_Rooted___init__ : FuncData
  F_Rooted___init__ : Fun K "__init__" "Rooted.__init__" s_Rooted___init__ f_Rooted___init__ d_Rooted___init__
  b_Rooted___init__ : Binds K d_Rooted___init__ ["self", "below", "under"] []
  mk_Rooted : Mk K c_Rooted f_Rooted___init__
  f_Rooted_nought : Addr
  d_Rooted_nought : FuncData
  F_Rooted_nought : Fun K "nought" "Rooted.nought" s_Rooted_nought f_Rooted_nought d_Rooted_nought
  b_Rooted_nought : Binds K d_Rooted_nought ["self"] []
  M_Rooted_nought : Meth K c_Rooted "nought" f_Rooted_nought
  f_Rooted_lifted : Addr
  d_Rooted_lifted : FuncData
  F_Rooted_lifted : Fun K "lifted" "Rooted.lifted" s_Rooted_lifted f_Rooted_lifted d_Rooted_lifted
  b_Rooted_lifted : Binds K d_Rooted_lifted ["self", "one"] []
  M_Rooted_lifted : Meth K c_Rooted "lifted" f_Rooted_lifted
  f_Rooted_plus : Addr
  d_Rooted_plus : FuncData
  F_Rooted_plus : Fun K "plus" "Rooted.plus" s_Rooted_plus f_Rooted_plus d_Rooted_plus
  b_Rooted_plus : Binds K d_Rooted_plus ["self", "one", "other"] []
  M_Rooted_plus : Meth K c_Rooted "plus" f_Rooted_plus
  f_Rooted_times : Addr
  d_Rooted_times : FuncData
  F_Rooted_times : Fun K "times" "Rooted.times" s_Rooted_times f_Rooted_times d_Rooted_times
  b_Rooted_times : Binds K d_Rooted_times ["self", "one", "other"] []
  M_Rooted_times : Meth K c_Rooted "times" f_Rooted_times
  f_Rooted_scaled : Addr
  d_Rooted_scaled : FuncData
  F_Rooted_scaled : Fun K "scaled" "Rooted.scaled" s_Rooted_scaled f_Rooted_scaled d_Rooted_scaled
  b_Rooted_scaled : Binds K d_Rooted_scaled ["self", "one", "by"] []
  M_Rooted_scaled : Meth K c_Rooted "scaled" f_Rooted_scaled
  f_Rooted_sign : Addr
  d_Rooted_sign : FuncData
  F_Rooted_sign : Fun K "sign" "Rooted.sign" s_Rooted_sign f_Rooted_sign d_Rooted_sign
  b_Rooted_sign : Binds K d_Rooted_sign ["self", "one"] []
  M_Rooted_sign : Meth K c_Rooted "sign" f_Rooted_sign
  f_compare : Addr
  d_compare : FuncData
  F_compare : Fun K "compare" "compare" s_compare f_compare d_compare
  b_compare : Binds K d_compare ["one", "other"] []
  g_compare : mg "compare" = some (.ref f_compare)
  f_slabs_of : Addr
  d_slabs_of : FuncData
  F_slabs_of : Fun K "slabs_of" "slabs_of" s_slabs_of f_slabs_of d_slabs_of
  b_slabs_of : Binds K d_slabs_of ["leaf"] []
  g_slabs_of : mg "slabs_of" = some (.ref f_slabs_of)
  f_ball_of : Addr
  d_ball_of : FuncData
  F_ball_of : Fun K "ball_of" "ball_of" s_ball_of f_ball_of d_ball_of
  b_ball_of : Binds K d_ball_of ["leaf"] []
  g_ball_of : mg "ball_of" = some (.ref f_ball_of)
  f_directed : Addr
  d_directed : FuncData
  F_directed : Fun K "directed" "directed" s_directed f_directed d_directed
  b_directed : Binds K d_directed ["towards", "to_low", "to_high", "slab"] []
  g_directed : mg "directed" = some (.ref f_directed)
  f_met : Addr
  d_met : FuncData
  F_met : Fun K "met" "met" s_met f_met d_met
  b_met : Binds K d_met ["spans", "order"] []
  g_met : mg "met" = some (.ref f_met)
  f_flat_moment : Addr
  d_flat_moment : FuncData
  F_flat_moment : Fun K "flat_moment" "flat_moment" s_flat_moment f_flat_moment d_flat_moment
  b_flat_moment : Binds K d_flat_moment ["gap", "slope"] []
  g_flat_moment : mg "flat_moment" = some (.ref f_flat_moment)
  f_slab_stretch : Addr
  d_slab_stretch : FuncData
  F_slab_stretch : Fun K "slab_stretch" "slab_stretch" s_slab_stretch f_slab_stretch d_slab_stretch
  b_slab_stretch : Binds K d_slab_stretch ["slab", "ray"] []
  g_slab_stretch : mg "slab_stretch" = some (.ref f_slab_stretch)
  f_ball_stretch : Addr
  d_ball_stretch : FuncData
  F_ball_stretch : Fun K "ball_stretch" "ball_stretch" s_ball_stretch f_ball_stretch d_ball_stretch
  b_ball_stretch : Binds K d_ball_stretch ["leaf", "ray"] []
  g_ball_stretch : mg "ball_stretch" = some (.ref f_ball_stretch)
  f_leaf_stretch : Addr
  d_leaf_stretch : FuncData
  F_leaf_stretch : Fun K "leaf_stretch" "leaf_stretch" s_leaf_stretch f_leaf_stretch d_leaf_stretch
  b_leaf_stretch : Binds K d_leaf_stretch ["leaf", "ray"] []
  g_leaf_stretch : mg "leaf_stretch" = some (.ref f_leaf_stretch)
  f__law_open : Addr
  d__law_open : FuncData
  F__law_open : Fun K "_law_open" "_law_open" s__law_open f__law_open d__law_open
  b__law_open : Binds K d__law_open ["_law_script"] []
  g__law_open : mg "_law_open" = some (.ref f__law_open)
  f__law_pick : Addr
  d__law_pick : FuncData
  F__law_pick : Fun K "_law_pick" "_law_pick" s__law_pick f__law_pick d__law_pick
  b__law_pick : Binds K d__law_pick ["_law_deck", "_law_below"] []
  g__law_pick : mg "_law_pick" = some (.ref f__law_pick)
  f__law_same : Addr
  d__law_same : FuncData
  F__law_same : Fun K "_law_same" "_law_same" s__law_same f__law_same d__law_same
  b__law_same : Binds K d__law_same ["_law_found", "_law_due"] []
  g__law_same : mg "_law_same" = some (.ref f__law_same)
  f__law_fr : Addr
  d__law_fr : FuncData
  F__law_fr : Fun K "_law_fr" "_law_fr" s__law_fr f__law_fr d__law_fr
  b__law_fr : Binds K d__law_fr ["_law_above", "_law_below"] []
  g__law_fr : mg "_law_fr" = some (.ref f__law_fr)
  f__law_add : Addr
  d__law_add : FuncData
  F__law_add : Fun K "_law_add" "_law_add" s__law_add f__law_add d__law_add
  b__law_add : Binds K d__law_add ["_law_one", "_law_other"] []
  g__law_add : mg "_law_add" = some (.ref f__law_add)
  f__law_mul : Addr
  d__law_mul : FuncData
  F__law_mul : Fun K "_law_mul" "_law_mul" s__law_mul f__law_mul d__law_mul
  b__law_mul : Binds K d__law_mul ["_law_one", "_law_other"] []
  g__law_mul : mg "_law_mul" = some (.ref f__law_mul)
  f__law_dot : Addr
  d__law_dot : FuncData
  F__law_dot : Fun K "_law_dot" "_law_dot" s__law_dot f__law_dot d__law_dot
  b__law_dot : Binds K d__law_dot ["_law_one", "_law_other"] []
  g__law_dot : mg "_law_dot" = some (.ref f__law_dot)
  f__law_num : Addr
  d__law_num : FuncData
  F__law_num : Fun K "_law_num" "_law_num" s__law_num f__law_num d__law_num
  b__law_num : Binds K d__law_num ["_law_deck", "_law_far"] []
  g__law_num : mg "_law_num" = some (.ref f__law_num)
  f__law_point : Addr
  d__law_point : FuncData
  F__law_point : Fun K "_law_point" "_law_point" s__law_point f__law_point d__law_point
  b__law_point : Binds K d__law_point ["_law_deck", "_law_far"] []
  g__law_point : mg "_law_point" = some (.ref f__law_point)
  f__law_way : Addr
  d__law_way : FuncData
  F__law_way : Fun K "_law_way" "_law_way" s__law_way f__law_way d__law_way
  b__law_way : Binds K d__law_way ["_law_deck", "_law_far"] []
  g__law_way : mg "_law_way" = some (.ref f__law_way)
  f__law_form : Addr
  d__law_form : FuncData
  F__law_form : Fun K "_law_form" "_law_form" s__law_form f__law_form d__law_form
  b__law_form : Binds K d__law_form ["_law_deck"] []
  g__law_form : mg "_law_form" = some (.ref f__law_form)
  f__law_turn : Addr
  d__law_turn : FuncData
  F__law_turn : Fun K "_law_turn" "_law_turn" s__law_turn f__law_turn d__law_turn
  b__law_turn : Binds K d__law_turn ["_law_deck"] []
  g__law_turn : mg "_law_turn" = some (.ref f__law_turn)
  f__law_there : Addr
  d__law_there : FuncData
  F__law_there : Fun K "_law_there" "_law_there" s__law_there f__law_there d__law_there
  b__law_there : Binds K d__law_there ["_law_turn_here", "_law_slide", "_law_point_here"] []
  g__law_there : mg "_law_there" = some (.ref f__law_there)
  mk_Whole : MkO K c_Whole
  m_abs : mg "abs" = none
  m_all : mg "all" = none
  m_bool : mg "bool" = none
  m_enumerate : mg "enumerate" = none
  m_int : mg "int" = none
  m_isinstance : mg "isinstance" = none
  m_len : mg "len" = none
  m_list : mg "list" = none
  m_range : mg "range" = none
  m_str : mg "str" = none
  m_tuple : mg "tuple" = none
  m_zip : mg "zip" = none

section
variable {P : Program} {w : World} {K : PySem.W.Frag} {mg : Str → Option Value} {base : Heap}
def gm (T : Tx K mg) : Nat → Addr
  | 0 => T.c_Whole
  | 1 => T.c_Rooted
  | 2 => T.f_compare
  | _ => 0
theorem atF_below (T : Tx K mg) : ∀ c : Nat, at_below c = true → Cls K (gm T c) ∧ NoAttr K (gm T c) "below"
  | 0, e => by cases e
  | 1, _ => ⟨T.cl_Rooted, T.n_Rooted_below⟩
  | _ + 2, e => by cases e
theorem atF_under (T : Tx K mg) : ∀ c : Nat, at_under c = true → Cls K (gm T c) ∧ NoAttr K (gm T c) "under"
  | 0, e => by cases e
  | 1, _ => ⟨T.cl_Rooted, T.n_Rooted_under⟩
  | _ + 2, e => by cases e
theorem okS_frac (T : Tx K mg) : FnOk P w K mg base CX0 1 T.f_frac T.d_frac ["above", "below"] (spP ⟨K, gm T⟩ 2 m_frac) :=
  okP (K := ⟨K, gm T⟩) T.F_frac sc_frac (k := 0) fun cdv A outer s H E hr =>
      (sss_cons (ss_par (i := 2) (j := 3) sc_frac.nd rfl rfl (by decide) rfl rfl (sa_cons (se_pv (pv 1)) (sa_cons (se_op or_mod (se_pv (pv 0)) (se_pv (pv 1))) sa_nil)) (by rfl))
      (sss_cons (ss_while PassesOwn.never (st_tru (se_pv (pv 3)) (by intro _; rfl)) (sss_one (ss_par (i := 2) (j := 3) sc_frac.nd rfl rfl (by decide) rfl rfl (sa_cons (se_pv (pv 3)) (sa_cons (se_op or_mod (se_pv (pv 2)) (se_pv (pv 3))) sa_nil)) (by rfl))))
      (sss_one (ss_ret (se_tup (sa_cons (se_op or_fd (se_pv (pv 0)) (se_pv (pv 2))) (sa_cons (se_op or_fd (se_pv (pv 1)) (se_pv (pv 2))) sa_nil)))))))
theorem okS_plus (T : Tx K mg) : FnOk P w K mg base CX0 2 T.f_plus T.d_plus ["one", "other"] (spP ⟨K, gm T⟩ 2 m_plus) :=
  okP (K := ⟨K, gm T⟩) T.F_plus sc_plus (k := 1) fun cdv A outer s H E hr =>
      (sss_one (ss_ret (se_callP (n := 2) (lo_frac) (fun _ => (okS_frac T)) (hr.mono (by first | decide | omega)) (by rfl) T.g_frac (fun _ => T.F_frac.kp) (fun _ => T.b_frac) (sa_cons (se_op or_add (se_op or_mul (se_ix xr_ix (se_pv (pv 0)) se_int (fun _ _ => rfl)) (se_ix xr_ix (se_pv (pv 1)) se_int (fun _ _ => rfl))) (se_op or_mul (se_ix xr_ix (se_pv (pv 1)) se_int (fun _ _ => rfl)) (se_ix xr_ix (se_pv (pv 0)) se_int (fun _ _ => rfl)))) (sa_cons (se_op or_mul (se_ix xr_ix (se_pv (pv 0)) se_int (fun _ _ => rfl)) (se_ix xr_ix (se_pv (pv 1)) se_int (fun _ _ => rfl))) sa_nil)))))
theorem okS_minus (T : Tx K mg) : FnOk P w K mg base CX0 2 T.f_minus T.d_minus ["one", "other"] (spP ⟨K, gm T⟩ 2 m_minus) :=
  okP (K := ⟨K, gm T⟩) T.F_minus sc_minus (k := 1) fun cdv A outer s H E hr =>
      (sss_one (ss_ret (se_callP (n := 2) (lo_frac) (fun _ => (okS_frac T)) (hr.mono (by first | decide | omega)) (by rfl) T.g_frac (fun _ => T.F_frac.kp) (fun _ => T.b_frac) (sa_cons (se_op or_sub (se_op or_mul (se_ix xr_ix (se_pv (pv 0)) se_int (fun _ _ => rfl)) (se_ix xr_ix (se_pv (pv 1)) se_int (fun _ _ => rfl))) (se_op or_mul (se_ix xr_ix (se_pv (pv 1)) se_int (fun _ _ => rfl)) (se_ix xr_ix (se_pv (pv 0)) se_int (fun _ _ => rfl)))) (sa_cons (se_op or_mul (se_ix xr_ix (se_pv (pv 0)) se_int (fun _ _ => rfl)) (se_ix xr_ix (se_pv (pv 1)) se_int (fun _ _ => rfl))) sa_nil)))))
theorem okS_times (T : Tx K mg) : FnOk P w K mg base CX0 2 T.f_times T.d_times ["one", "other"] (spP ⟨K, gm T⟩ 2 m_times) :=
  okP (K := ⟨K, gm T⟩) T.F_times sc_times (k := 1) fun cdv A outer s H E hr =>
      (sss_one (ss_ret (se_callP (n := 2) (lo_frac) (fun _ => (okS_frac T)) (hr.mono (by first | decide | omega)) (by rfl) T.g_frac (fun _ => T.F_frac.kp) (fun _ => T.b_frac) (sa_cons (se_op or_mul (se_ix xr_ix (se_pv (pv 0)) se_int (fun _ _ => rfl)) (se_ix xr_ix (se_pv (pv 1)) se_int (fun _ _ => rfl))) (sa_cons (se_op or_mul (se_ix xr_ix (se_pv (pv 0)) se_int (fun _ _ => rfl)) (se_ix xr_ix (se_pv (pv 1)) se_int (fun _ _ => rfl))) sa_nil)))))
theorem okS_over (T : Tx K mg) : FnOk P w K mg base CX0 2 T.f_over T.d_over ["one", "other"] (spP ⟨K, gm T⟩ 2 m_over) :=
  okP (K := ⟨K, gm T⟩) T.F_over sc_over (k := 1) fun cdv A outer s H E hr =>
      (sss_one (ss_ret (se_callP (n := 2) (lo_frac) (fun _ => (okS_frac T)) (hr.mono (by first | decide | omega)) (by rfl) T.g_frac (fun _ => T.F_frac.kp) (fun _ => T.b_frac) (sa_cons (se_op or_mul (se_ix xr_ix (se_pv (pv 0)) se_int (fun _ _ => rfl)) (se_ix xr_ix (se_pv (pv 1)) se_int (fun _ _ => rfl))) (sa_cons (se_op or_mul (se_ix xr_ix (se_pv (pv 0)) se_int (fun _ _ => rfl)) (se_ix xr_ix (se_pv (pv 1)) se_int (fun _ _ => rfl))) sa_nil)))))
theorem okS_sign (T : Tx K mg) : FnOk P w K mg base CX0 1 T.f_sign T.d_sign ["one"] (spP ⟨K, gm T⟩ 1 m_sign) :=
  okP (K := ⟨K, gm T⟩) T.F_sign sc_sign (k := 0) fun cdv A outer s H E hr =>
      (sss_cons (ss_if (st_cmp or_lt (se_ix xr_ix (se_pv (pv 0)) se_int (fun _ _ => rfl)) se_int (nomark _)) (sss_one (ss_ret (se_un ur_neg se_int))) sss_nil)
      (sss_cons (ss_if (st_cmp or_gt (se_ix xr_ix (se_pv (pv 0)) se_int (fun _ _ => rfl)) se_int (nomark _)) (sss_one (ss_ret se_int)) sss_nil)
      (sss_one (ss_ret se_int))))
theorem okS_dot (T : Tx K mg) : FnOk P w K mg base CX0 2 T.f_dot T.d_dot ["one", "other"] (spP ⟨K, gm T⟩ 2 m_dot) :=
  okP (K := ⟨K, gm T⟩) T.F_dot sc_dot (k := 1) fun cdv A outer s H E hr =>
      (sss_cons (ss_asg (vs := [2, 3]) (se_tup (sa_cons se_int (sa_cons se_int sa_nil))) (sg_tup (sgs_cons (sg_name (i := 2) (by decide) sc_dot.nd rfl (by first | exact Or.inl rfl | exact Or.inr rfl)) (sgs_cons (sg_name (i := 3) (by decide) sc_dot.nd rfl (by first | exact Or.inl rfl | exact Or.inr rfl)) sgs_nil))))
      (sss_cons (ss_for (vs := [4, 5]) PassesOwn.never (si_zip (by rfl) T.m_zip (se_pv (pv 0)) (se_pv (pv 1))) (sg_tup (sgs_cons (sg_name (i := 4) (by decide) sc_dot.nd rfl (by first | exact Or.inl rfl | exact Or.inr rfl)) (sgs_cons (sg_name (i := 5) (by decide) sc_dot.nd rfl (by first | exact Or.inl rfl | exact Or.inr rfl)) sgs_nil))) (sss_cons (ss_set (i := 6) sc_dot.nd rfl (by first | exact Or.inl rfl | exact Or.inr rfl) (se_op or_mul (se_ix xr_ix (se_pv (pv 4)) se_int (fun _ _ => rfl)) (se_ix xr_ix (se_pv (pv 5)) se_int (fun _ _ => rfl))))
      (sss_cons (ss_set (i := 2) sc_dot.nd rfl (by first | exact Or.inl rfl | exact Or.inr rfl) (se_op or_add (se_op or_mul (se_pv (pv 2)) (se_pv (pv 6))) (se_op or_mul (se_op or_mul (se_ix xr_ix (se_pv (pv 4)) se_int (fun _ _ => rfl)) (se_ix xr_ix (se_pv (pv 5)) se_int (fun _ _ => rfl))) (se_pv (pv 3)))))
      (sss_one (ss_set (i := 3) sc_dot.nd rfl (by first | exact Or.inl rfl | exact Or.inr rfl) (se_op or_mul (se_pv (pv 3)) (se_pv (pv 6))))))))
      (sss_one (ss_ret (se_callP (n := 2) (lo_frac) (fun _ => (okS_frac T)) (hr.mono (by first | decide | omega)) (by rfl) T.g_frac (fun _ => T.F_frac.kp) (fun _ => T.b_frac) (sa_cons (se_pv (pv 2)) (sa_cons (se_pv (pv 3)) sa_nil)))))))
theorem okS_together (T : Tx K mg) : FnOk P w K mg base CX0 3 T.f_together T.d_together ["one", "other"] (spP ⟨K, gm T⟩ 2 m_together) :=
  okP (K := ⟨K, gm T⟩) T.F_together sc_together (k := 2) fun cdv A outer s H E hr =>
      (sss_one (ss_ret (se_tup (sa_cons (se_callP (n := 2) (lo_plus) (fun _ => (okS_plus T)) (hr.mono (by first | decide | omega)) (by rfl) T.g_plus (fun _ => T.F_plus.kp) (fun _ => T.b_plus) (sa_cons (se_ix xr_ix (se_pv (pv 0)) se_int (fun _ _ => rfl)) (sa_cons (se_ix xr_ix (se_pv (pv 1)) se_int (fun _ _ => rfl)) sa_nil))) (sa_cons (se_callP (n := 2) (lo_plus) (fun _ => (okS_plus T)) (hr.mono (by first | decide | omega)) (by rfl) T.g_plus (fun _ => T.F_plus.kp) (fun _ => T.b_plus) (sa_cons (se_ix xr_ix (se_pv (pv 0)) se_int (fun _ _ => rfl)) (sa_cons (se_ix xr_ix (se_pv (pv 1)) se_int (fun _ _ => rfl)) sa_nil))) (sa_cons (se_callP (n := 2) (lo_plus) (fun _ => (okS_plus T)) (hr.mono (by first | decide | omega)) (by rfl) T.g_plus (fun _ => T.F_plus.kp) (fun _ => T.b_plus) (sa_cons (se_ix xr_ix (se_pv (pv 0)) se_int (fun _ _ => rfl)) (sa_cons (se_ix xr_ix (se_pv (pv 1)) se_int (fun _ _ => rfl)) sa_nil))) sa_nil))))))
theorem okS_way_between (T : Tx K mg) : FnOk P w K mg base CX0 3 T.f_way_between T.d_way_between ["one", "other"] (spP ⟨K, gm T⟩ 2 m_way_between) :=
  okP (K := ⟨K, gm T⟩) T.F_way_between sc_way_between (k := 2) fun cdv A outer s H E hr =>
      (sss_one (ss_ret (se_tup (sa_cons (se_callP (n := 2) (lo_minus) (fun _ => (okS_minus T)) (hr.mono (by first | decide | omega)) (by rfl) T.g_minus (fun _ => T.F_minus.kp) (fun _ => T.b_minus) (sa_cons (se_ix xr_ix (se_pv (pv 1)) se_int (fun _ _ => rfl)) (sa_cons (se_ix xr_ix (se_pv (pv 0)) se_int (fun _ _ => rfl)) sa_nil))) (sa_cons (se_callP (n := 2) (lo_minus) (fun _ => (okS_minus T)) (hr.mono (by first | decide | omega)) (by rfl) T.g_minus (fun _ => T.F_minus.kp) (fun _ => T.b_minus) (sa_cons (se_ix xr_ix (se_pv (pv 1)) se_int (fun _ _ => rfl)) (sa_cons (se_ix xr_ix (se_pv (pv 0)) se_int (fun _ _ => rfl)) sa_nil))) (sa_cons (se_callP (n := 2) (lo_minus) (fun _ => (okS_minus T)) (hr.mono (by first | decide | omega)) (by rfl) T.g_minus (fun _ => T.F_minus.kp) (fun _ => T.b_minus) (sa_cons (se_ix xr_ix (se_pv (pv 1)) se_int (fun _ _ => rfl)) (sa_cons (se_ix xr_ix (se_pv (pv 0)) se_int (fun _ _ => rfl)) sa_nil))) sa_nil))))))
theorem okS_turned (T : Tx K mg) : FnOk P w K mg base CX0 3 T.f_turned T.d_turned ["turn", "way"] (spP ⟨K, gm T⟩ 2 m_turned) :=
  okP (K := ⟨K, gm T⟩) T.F_turned sc_turned (k := 2) fun cdv A outer s H E hr =>
      (sss_one (ss_ret (se_tup (sa_cons (se_callP (n := 2) (lo_dot) (fun _ => (okS_dot T)) (hr.mono (by first | decide | omega)) (by rfl) T.g_dot (fun _ => T.F_dot.kp) (fun _ => T.b_dot) (sa_cons (se_ix xr_ix (se_pv (pv 0)) se_int (fun _ _ => rfl)) (sa_cons (se_pv (pv 1)) sa_nil))) (sa_cons (se_callP (n := 2) (lo_dot) (fun _ => (okS_dot T)) (hr.mono (by first | decide | omega)) (by rfl) T.g_dot (fun _ => T.F_dot.kp) (fun _ => T.b_dot) (sa_cons (se_ix xr_ix (se_pv (pv 0)) se_int (fun _ _ => rfl)) (sa_cons (se_pv (pv 1)) sa_nil))) (sa_cons (se_callP (n := 2) (lo_dot) (fun _ => (okS_dot T)) (hr.mono (by first | decide | omega)) (by rfl) T.g_dot (fun _ => T.F_dot.kp) (fun _ => T.b_dot) (sa_cons (se_ix xr_ix (se_pv (pv 0)) se_int (fun _ _ => rfl)) (sa_cons (se_pv (pv 1)) sa_nil))) sa_nil))))))
theorem okS_columns_of (T : Tx K mg) : FnOk P w K mg base CX0 1 T.f_columns_of T.d_columns_of ["turn"] (spP ⟨K, gm T⟩ 1 m_columns_of) :=
  okP (K := ⟨K, gm T⟩) T.F_columns_of sc_columns_of (k := 0) fun cdv A outer s H E hr =>
      (sss_one (ss_ret (se_tup (sa_cons (se_tup (sa_cons (se_ix xr_ix (se_ix xr_ix (se_pv (pv 0)) se_int (fun _ _ => rfl)) se_int (fun _ _ => rfl)) (sa_cons (se_ix xr_ix (se_ix xr_ix (se_pv (pv 0)) se_int (fun _ _ => rfl)) se_int (fun _ _ => rfl)) (sa_cons (se_ix xr_ix (se_ix xr_ix (se_pv (pv 0)) se_int (fun _ _ => rfl)) se_int (fun _ _ => rfl)) sa_nil)))) (sa_cons (se_tup (sa_cons (se_ix xr_ix (se_ix xr_ix (se_pv (pv 0)) se_int (fun _ _ => rfl)) se_int (fun _ _ => rfl)) (sa_cons (se_ix xr_ix (se_ix xr_ix (se_pv (pv 0)) se_int (fun _ _ => rfl)) se_int (fun _ _ => rfl)) (sa_cons (se_ix xr_ix (se_ix xr_ix (se_pv (pv 0)) se_int (fun _ _ => rfl)) se_int (fun _ _ => rfl)) sa_nil)))) (sa_cons (se_tup (sa_cons (se_ix xr_ix (se_ix xr_ix (se_pv (pv 0)) se_int (fun _ _ => rfl)) se_int (fun _ _ => rfl)) (sa_cons (se_ix xr_ix (se_ix xr_ix (se_pv (pv 0)) se_int (fun _ _ => rfl)) se_int (fun _ _ => rfl)) (sa_cons (se_ix xr_ix (se_ix xr_ix (se_pv (pv 0)) se_int (fun _ _ => rfl)) se_int (fun _ _ => rfl)) sa_nil)))) sa_nil))))))
theorem okS_Whole_nought (T : Tx K mg) : FnOk P w K mg base CX0 1 T.f_Whole_nought T.d_Whole_nought ["self"] (spM ⟨K, gm T⟩ 1 m_Whole_nought) :=
  okM (K := ⟨K, gm T⟩) T.F_Whole_nought sc_Whole_nought (k := 0) fun cdv A outer s H E hr =>
      (sss_one (ss_ret se_int))
theorem okS_Whole_plus (T : Tx K mg) : FnOk P w K mg base CX0 1 T.f_Whole_plus T.d_Whole_plus ["self", "one", "other"] (spM ⟨K, gm T⟩ 3 m_Whole_plus) :=
  okM (K := ⟨K, gm T⟩) T.F_Whole_plus sc_Whole_plus (k := 0) fun cdv A outer s H E hr =>
      (sss_one (ss_ret (se_op or_add (se_pv (pv 1)) (se_pv (pv 2)))))
theorem okS_Whole_times (T : Tx K mg) : FnOk P w K mg base CX0 1 T.f_Whole_times T.d_Whole_times ["self", "one", "other"] (spM ⟨K, gm T⟩ 3 m_Whole_times) :=
  okM (K := ⟨K, gm T⟩) T.F_Whole_times sc_Whole_times (k := 0) fun cdv A outer s H E hr =>
      (sss_one (ss_ret (se_op or_mul (se_pv (pv 1)) (se_pv (pv 2)))))
theorem okS_Whole_scaled (T : Tx K mg) : FnOk P w K mg base CX0 1 T.f_Whole_scaled T.d_Whole_scaled ["self", "one", "by"] (spM ⟨K, gm T⟩ 3 m_Whole_scaled) :=
  okM (K := ⟨K, gm T⟩) T.F_Whole_scaled sc_Whole_scaled (k := 0) fun cdv A outer s H E hr =>
      (sss_one (ss_ret (se_op or_mul (se_pv (pv 1)) (se_pv (pv 2)))))
theorem okS_Whole_sign (T : Tx K mg) : FnOk P w K mg base CX0 1 T.f_Whole_sign T.d_Whole_sign ["self", "one"] (spM ⟨K, gm T⟩ 2 m_Whole_sign) :=
  okM (K := ⟨K, gm T⟩) T.F_Whole_sign sc_Whole_sign (k := 0) fun cdv A outer s H E hr =>
      (sss_cons (ss_if (st_cmp or_lt (se_pv (pv 1)) se_int (nomark _)) (sss_one (ss_ret (se_un ur_neg se_int))) sss_nil)
      (sss_cons (ss_if (st_cmp or_gt (se_pv (pv 1)) se_int (nomark _)) (sss_one (ss_ret se_int)) sss_nil)
      (sss_one (ss_ret se_int))))
theorem okS_Rooted___init__ (T : Tx K mg) : FnOk P w K mg base CX0 1 T.f_Rooted___init__ T.d_Rooted___init__ ["self", "below", "under"] (spM ⟨K, gm T⟩ 3 m_Rooted___init__) :=
  okM (K := ⟨K, gm T⟩) T.F_Rooted___init__ sc_Rooted___init__ (k := 0) fun cdv A outer s H E hr =>
      (sss_cons (ss_fld (fun _ => atF_below T) (se_pv (pv 0)) (se_pv (pv 1)) rfl)
      (sss_one (ss_fld (fun _ => atF_under T) (se_pv (pv 0)) (se_pv (pv 2)) rfl)))
theorem tbrF_nought (T : Tx K mg) {A : Around} {n : Nat} (ih : FnOk P w K mg base CX0 (2 + n) T.f_Rooted_nought T.d_Rooted_nought ["self"] (spM ⟨K, gm T⟩ 1 (m_Rooted_nought n))) (hr : Room (2 + n) A) (hr0 : Room 1 A) : ∀ (c : Nat) (g : GL), tbr_nought (m_Rooted_nought n) c = some g → Cls K (gm T c) ∧ ∃ k f fd ps, Meth K (gm T c) "nought" f ∧ FnOk P w K mg base CX0 k f fd ps (spM ⟨K, gm T⟩ 1 g) ∧ Room k A ∧ Binds K fd ps []
  | 0, _, e => by cases e; exact ⟨T.cl_Whole, _, _, _, _, T.M_Whole_nought, okS_Whole_nought T, hr0.mono (by decide), T.b_Whole_nought⟩
  | 1, _, e => by cases e; exact ⟨T.cl_Rooted, _, _, _, _, T.M_Rooted_nought, ih, hr, T.b_Rooted_nought⟩
  | _ + 2, _, e => by cases e
theorem okS_Rooted_nought (T : Tx K mg) : ∀ n : Nat, FnOk P w K mg base CX0 (2 + n) T.f_Rooted_nought T.d_Rooted_nought ["self"] (spM ⟨K, gm T⟩ 1 (m_Rooted_nought n))
  | 0 => ok0M (K := ⟨K, gm T⟩)
  | n + 1 => by
    have ih := okS_Rooted_nought T n
    exact okM (K := ⟨K, gm T⟩) T.F_Rooted_nought sc_Rooted_nought (k := 2 + n) fun cdv A outer s H E hr =>
      (sss_one (ss_ret (se_tup (sa_cons (se_mt0 (tblr_nought (ln_Rooted_nought n)) (fun _ => tbrF_nought T ih (hr.mono (by first | decide | omega)) (hr.mono (by first | decide | omega))) (se_fld (fun _ => atF_below T) (se_pv (pv 0)) rfl)) (sa_cons (se_mt0 (tblr_nought (ln_Rooted_nought n)) (fun _ => tbrF_nought T ih (hr.mono (by first | decide | omega)) (hr.mono (by first | decide | omega))) (se_fld (fun _ => atF_below T) (se_pv (pv 0)) rfl)) sa_nil)))))
theorem tbF_nought (T : Tx K mg) {A : Around} (hr : Room 6 A) : ∀ (c : Nat) (g : GL), tb_nought c = some g → Cls K (gm T c) ∧ ∃ k f fd ps, Meth K (gm T c) "nought" f ∧ FnOk P w K mg base CX0 k f fd ps (spM ⟨K, gm T⟩ 1 g) ∧ Room k A ∧ Binds K fd ps []
  | 0, _, e => by cases e; exact ⟨T.cl_Whole, _, _, _, _, T.M_Whole_nought, okS_Whole_nought T, hr.mono (by decide), T.b_Whole_nought⟩
  | 1, _, e => by cases e; exact ⟨T.cl_Rooted, _, _, _, _, T.M_Rooted_nought, okS_Rooted_nought T 4, hr.mono (by decide), T.b_Rooted_nought⟩
  | _ + 2, _, e => by cases e
theorem okS_Rooted_lifted (T : Tx K mg) : FnOk P w K mg base CX0 7 T.f_Rooted_lifted T.d_Rooted_lifted ["self", "one"] (spM ⟨K, gm T⟩ 2 m_Rooted_lifted) :=
  okM (K := ⟨K, gm T⟩) T.F_Rooted_lifted sc_Rooted_lifted (k := 6) fun cdv A outer s H E hr =>
      (sss_one (ss_ret (se_tup (sa_cons (se_pv (pv 1)) (sa_cons (se_mt0 tbl_nought (fun _ => tbF_nought T (hr.mono (by first | decide | omega))) (se_fld (fun _ => atF_below T) (se_pv (pv 0)) rfl)) sa_nil)))))
theorem tbrF_plus (T : Tx K mg) {A : Around} {n : Nat} (ih : FnOk P w K mg base CX0 (2 + n) T.f_Rooted_plus T.d_Rooted_plus ["self", "one", "other"] (spM ⟨K, gm T⟩ 3 (m_Rooted_plus n))) (hr : Room (2 + n) A) (hr0 : Room 1 A) : ∀ (c : Nat) (g : GL), tbr_plus (m_Rooted_plus n) c = some g → Cls K (gm T c) ∧ ∃ k f fd ps, Meth K (gm T c) "plus" f ∧ FnOk P w K mg base CX0 k f fd ps (spM ⟨K, gm T⟩ 3 g) ∧ Room k A ∧ Binds K fd ps []
  | 0, _, e => by cases e; exact ⟨T.cl_Whole, _, _, _, _, T.M_Whole_plus, okS_Whole_plus T, hr0.mono (by decide), T.b_Whole_plus⟩
  | 1, _, e => by cases e; exact ⟨T.cl_Rooted, _, _, _, _, T.M_Rooted_plus, ih, hr, T.b_Rooted_plus⟩
  | _ + 2, _, e => by cases e
theorem okS_Rooted_plus (T : Tx K mg) : ∀ n : Nat, FnOk P w K mg base CX0 (2 + n) T.f_Rooted_plus T.d_Rooted_plus ["self", "one", "other"] (spM ⟨K, gm T⟩ 3 (m_Rooted_plus n))
  | 0 => ok0M (K := ⟨K, gm T⟩)
  | n + 1 => by
    have ih := okS_Rooted_plus T n
    exact okM (K := ⟨K, gm T⟩) T.F_Rooted_plus sc_Rooted_plus (k := 2 + n) fun cdv A outer s H E hr =>
      (sss_one (ss_ret (se_tup (sa_cons (se_mt (n := 2) (tblr_plus (ln_Rooted_plus n)) (fun _ => tbrF_plus T ih (hr.mono (by first | decide | omega)) (hr.mono (by first | decide | omega))) (se_fld (fun _ => atF_below T) (se_pv (pv 0)) rfl) (sa_cons (se_ix xr_ix (se_pv (pv 1)) se_int (fun _ _ => rfl)) (sa_cons (se_ix xr_ix (se_pv (pv 2)) se_int (fun _ _ => rfl)) sa_nil))) (sa_cons (se_mt (n := 2) (tblr_plus (ln_Rooted_plus n)) (fun _ => tbrF_plus T ih (hr.mono (by first | decide | omega)) (hr.mono (by first | decide | omega))) (se_fld (fun _ => atF_below T) (se_pv (pv 0)) rfl) (sa_cons (se_ix xr_ix (se_pv (pv 1)) se_int (fun _ _ => rfl)) (sa_cons (se_ix xr_ix (se_pv (pv 2)) se_int (fun _ _ => rfl)) sa_nil))) sa_nil)))))
theorem tbrF_times (T : Tx K mg) {A : Around} {n : Nat} (ih : FnOk P w K mg base CX0 (7 + n) T.f_Rooted_times T.d_Rooted_times ["self", "one", "other"] (spM ⟨K, gm T⟩ 3 (m_Rooted_times n))) (hr : Room (7 + n) A) (hr0 : Room 1 A) : ∀ (c : Nat) (g : GL), tbr_times (m_Rooted_times n) c = some g → Cls K (gm T c) ∧ ∃ k f fd ps, Meth K (gm T c) "times" f ∧ FnOk P w K mg base CX0 k f fd ps (spM ⟨K, gm T⟩ 3 g) ∧ Room k A ∧ Binds K fd ps []
  | 0, _, e => by cases e; exact ⟨T.cl_Whole, _, _, _, _, T.M_Whole_times, okS_Whole_times T, hr0.mono (by decide), T.b_Whole_times⟩
  | 1, _, e => by cases e; exact ⟨T.cl_Rooted, _, _, _, _, T.M_Rooted_times, ih, hr, T.b_Rooted_times⟩
  | _ + 2, _, e => by cases e
theorem tbF_plus (T : Tx K mg) {A : Around} (hr : Room 6 A) : ∀ (c : Nat) (g : GL), tb_plus c = some g → Cls K (gm T c) ∧ ∃ k f fd ps, Meth K (gm T c) "plus" f ∧ FnOk P w K mg base CX0 k f fd ps (spM ⟨K, gm T⟩ 3 g) ∧ Room k A ∧ Binds K fd ps []
  | 0, _, e => by cases e; exact ⟨T.cl_Whole, _, _, _, _, T.M_Whole_plus, okS_Whole_plus T, hr.mono (by decide), T.b_Whole_plus⟩
  | 1, _, e => by cases e; exact ⟨T.cl_Rooted, _, _, _, _, T.M_Rooted_plus, okS_Rooted_plus T 4, hr.mono (by decide), T.b_Rooted_plus⟩
  | _ + 2, _, e => by cases e
theorem okS_Rooted_times (T : Tx K mg) : ∀ n : Nat, FnOk P w K mg base CX0 (7 + n) T.f_Rooted_times T.d_Rooted_times ["self", "one", "other"] (spM ⟨K, gm T⟩ 3 (m_Rooted_times n))
  | 0 => ok0M (K := ⟨K, gm T⟩)
  | n + 1 => by
    have ih := okS_Rooted_times T n
    exact okM (K := ⟨K, gm T⟩) T.F_Rooted_times sc_Rooted_times (k := 7 + n) fun cdv A outer s H E hr =>
      (sss_cons (ss_set (i := 3) sc_Rooted_times.nd rfl (by first | exact Or.inl rfl | exact Or.inr rfl) (se_fld (fun _ => atF_below T) (se_pv (pv 0)) rfl))
      (sss_cons (ss_set (i := 4) sc_Rooted_times.nd rfl (by first | exact Or.inl rfl | exact Or.inr rfl) (se_mt (n := 2) (tblr_times (ln_Rooted_times n)) (fun _ => tbrF_times T ih (hr.mono (by first | decide | omega)) (hr.mono (by first | decide | omega))) (se_pv (pv 3)) (sa_cons (se_fld (fun _ => atF_under T) (se_pv (pv 0)) rfl) (sa_cons (se_mt (n := 2) (tblr_times (ln_Rooted_times n)) (fun _ => tbrF_times T ih (hr.mono (by first | decide | omega)) (hr.mono (by first | decide | omega))) (se_pv (pv 3)) (sa_cons (se_ix xr_ix (se_pv (pv 1)) se_int (fun _ _ => rfl)) (sa_cons (se_ix xr_ix (se_pv (pv 2)) se_int (fun _ _ => rfl)) sa_nil))) sa_nil))))
      (sss_cons (ss_set (i := 5) sc_Rooted_times.nd rfl (by first | exact Or.inl rfl | exact Or.inr rfl) (se_mt (n := 2) tbl_plus (fun _ => tbF_plus T (hr.mono (by first | decide | omega))) (se_pv (pv 3)) (sa_cons (se_mt (n := 2) (tblr_times (ln_Rooted_times n)) (fun _ => tbrF_times T ih (hr.mono (by first | decide | omega)) (hr.mono (by first | decide | omega))) (se_pv (pv 3)) (sa_cons (se_ix xr_ix (se_pv (pv 1)) se_int (fun _ _ => rfl)) (sa_cons (se_ix xr_ix (se_pv (pv 2)) se_int (fun _ _ => rfl)) sa_nil))) (sa_cons (se_pv (pv 4)) sa_nil))))
      (sss_cons (ss_set (i := 6) sc_Rooted_times.nd rfl (by first | exact Or.inl rfl | exact Or.inr rfl) (se_mt (n := 2) tbl_plus (fun _ => tbF_plus T (hr.mono (by first | decide | omega))) (se_pv (pv 3)) (sa_cons (se_mt (n := 2) (tblr_times (ln_Rooted_times n)) (fun _ => tbrF_times T ih (hr.mono (by first | decide | omega)) (hr.mono (by first | decide | omega))) (se_pv (pv 3)) (sa_cons (se_ix xr_ix (se_pv (pv 1)) se_int (fun _ _ => rfl)) (sa_cons (se_ix xr_ix (se_pv (pv 2)) se_int (fun _ _ => rfl)) sa_nil))) (sa_cons (se_mt (n := 2) (tblr_times (ln_Rooted_times n)) (fun _ => tbrF_times T ih (hr.mono (by first | decide | omega)) (hr.mono (by first | decide | omega))) (se_pv (pv 3)) (sa_cons (se_ix xr_ix (se_pv (pv 1)) se_int (fun _ _ => rfl)) (sa_cons (se_ix xr_ix (se_pv (pv 2)) se_int (fun _ _ => rfl)) sa_nil))) sa_nil))))
      (sss_one (ss_ret (se_tup (sa_cons (se_pv (pv 5)) (sa_cons (se_pv (pv 6)) sa_nil)))))))))
theorem tbrF_scaled (T : Tx K mg) {A : Around} {n : Nat} (ih : FnOk P w K mg base CX0 (2 + n) T.f_Rooted_scaled T.d_Rooted_scaled ["self", "one", "by"] (spM ⟨K, gm T⟩ 3 (m_Rooted_scaled n))) (hr : Room (2 + n) A) (hr0 : Room 1 A) : ∀ (c : Nat) (g : GL), tbr_scaled (m_Rooted_scaled n) c = some g → Cls K (gm T c) ∧ ∃ k f fd ps, Meth K (gm T c) "scaled" f ∧ FnOk P w K mg base CX0 k f fd ps (spM ⟨K, gm T⟩ 3 g) ∧ Room k A ∧ Binds K fd ps []
  | 0, _, e => by cases e; exact ⟨T.cl_Whole, _, _, _, _, T.M_Whole_scaled, okS_Whole_scaled T, hr0.mono (by decide), T.b_Whole_scaled⟩
  | 1, _, e => by cases e; exact ⟨T.cl_Rooted, _, _, _, _, T.M_Rooted_scaled, ih, hr, T.b_Rooted_scaled⟩
  | _ + 2, _, e => by cases e
theorem okS_Rooted_scaled (T : Tx K mg) : ∀ n : Nat, FnOk P w K mg base CX0 (2 + n) T.f_Rooted_scaled T.d_Rooted_scaled ["self", "one", "by"] (spM ⟨K, gm T⟩ 3 (m_Rooted_scaled n))
  | 0 => ok0M (K := ⟨K, gm T⟩)
  | n + 1 => by
    have ih := okS_Rooted_scaled T n
    exact okM (K := ⟨K, gm T⟩) T.F_Rooted_scaled sc_Rooted_scaled (k := 2 + n) fun cdv A outer s H E hr =>
      (sss_one (ss_ret (se_tup (sa_cons (se_mt (n := 2) (tblr_scaled (ln_Rooted_scaled n)) (fun _ => tbrF_scaled T ih (hr.mono (by first | decide | omega)) (hr.mono (by first | decide | omega))) (se_fld (fun _ => atF_below T) (se_pv (pv 0)) rfl) (sa_cons (se_ix xr_ix (se_pv (pv 1)) se_int (fun _ _ => rfl)) (sa_cons (se_pv (pv 2)) sa_nil))) (sa_cons (se_mt (n := 2) (tblr_scaled (ln_Rooted_scaled n)) (fun _ => tbrF_scaled T ih (hr.mono (by first | decide | omega)) (hr.mono (by first | decide | omega))) (se_fld (fun _ => atF_below T) (se_pv (pv 0)) rfl) (sa_cons (se_ix xr_ix (se_pv (pv 1)) se_int (fun _ _ => rfl)) (sa_cons (se_pv (pv 2)) sa_nil))) sa_nil)))))
theorem tbrF_sign (T : Tx K mg) {A : Around} {n : Nat} (ih : FnOk P w K mg base CX0 (12 + n) T.f_Rooted_sign T.d_Rooted_sign ["self", "one"] (spM ⟨K, gm T⟩ 2 (m_Rooted_sign n))) (hr : Room (12 + n) A) (hr0 : Room 1 A) : ∀ (c : Nat) (g : GL), tbr_sign (m_Rooted_sign n) c = some g → Cls K (gm T c) ∧ ∃ k f fd ps, Meth K (gm T c) "sign" f ∧ FnOk P w K mg base CX0 k f fd ps (spM ⟨K, gm T⟩ 2 g) ∧ Room k A ∧ Binds K fd ps []
  | 0, _, e => by cases e; exact ⟨T.cl_Whole, _, _, _, _, T.M_Whole_sign, okS_Whole_sign T, hr0.mono (by decide), T.b_Whole_sign⟩
  | 1, _, e => by cases e; exact ⟨T.cl_Rooted, _, _, _, _, T.M_Rooted_sign, ih, hr, T.b_Rooted_sign⟩
  | _ + 2, _, e => by cases e
theorem tbF_times (T : Tx K mg) {A : Around} (hr : Room 11 A) : ∀ (c : Nat) (g : GL), tb_times c = some g → Cls K (gm T c) ∧ ∃ k f fd ps, Meth K (gm T c) "times" f ∧ FnOk P w K mg base CX0 k f fd ps (spM ⟨K, gm T⟩ 3 g) ∧ Room k A ∧ Binds K fd ps []
  | 0, _, e => by cases e; exact ⟨T.cl_Whole, _, _, _, _, T.M_Whole_times, okS_Whole_times T, hr.mono (by decide), T.b_Whole_times⟩
  | 1, _, e => by cases e; exact ⟨T.cl_Rooted, _, _, _, _, T.M_Rooted_times, okS_Rooted_times T 4, hr.mono (by decide), T.b_Rooted_times⟩
  | _ + 2, _, e => by cases e
theorem tbF_scaled (T : Tx K mg) {A : Around} (hr : Room 6 A) : ∀ (c : Nat) (g : GL), tb_scaled c = some g → Cls K (gm T c) ∧ ∃ k f fd ps, Meth K (gm T c) "scaled" f ∧ FnOk P w K mg base CX0 k f fd ps (spM ⟨K, gm T⟩ 3 g) ∧ Room k A ∧ Binds K fd ps []
  | 0, _, e => by cases e; exact ⟨T.cl_Whole, _, _, _, _, T.M_Whole_scaled, okS_Whole_scaled T, hr.mono (by decide), T.b_Whole_scaled⟩
  | 1, _, e => by cases e; exact ⟨T.cl_Rooted, _, _, _, _, T.M_Rooted_scaled, okS_Rooted_scaled T 4, hr.mono (by decide), T.b_Rooted_scaled⟩
  | _ + 2, _, e => by cases e
theorem okS_Rooted_sign (T : Tx K mg) : ∀ n : Nat, FnOk P w K mg base CX0 (12 + n) T.f_Rooted_sign T.d_Rooted_sign ["self", "one"] (spM ⟨K, gm T⟩ 2 (m_Rooted_sign n))
  | 0 => ok0M (K := ⟨K, gm T⟩)
  | n + 1 => by
    have ih := okS_Rooted_sign T n
    exact okM (K := ⟨K, gm T⟩) T.F_Rooted_sign sc_Rooted_sign (k := 12 + n) fun cdv A outer s H E hr =>
      (sss_cons (ss_set (i := 2) sc_Rooted_sign.nd rfl (by first | exact Or.inl rfl | exact Or.inr rfl) (se_fld (fun _ => atF_below T) (se_pv (pv 0)) rfl))
      (sss_cons (ss_asg (vs := [3, 4]) (se_pv (pv 1)) (sg_tup (sgs_cons (sg_name (i := 3) (by decide) sc_Rooted_sign.nd rfl (by first | exact Or.inl rfl | exact Or.inr rfl)) (sgs_cons (sg_name (i := 4) (by decide) sc_Rooted_sign.nd rfl (by first | exact Or.inl rfl | exact Or.inr rfl)) sgs_nil))))
      (sss_cons (ss_set (i := 5) sc_Rooted_sign.nd rfl (by first | exact Or.inl rfl | exact Or.inr rfl) (se_mt (n := 1) (tblr_sign (ln_Rooted_sign n)) (fun _ => tbrF_sign T ih (hr.mono (by first | decide | omega)) (hr.mono (by first | decide | omega))) (se_pv (pv 2)) (sa_cons (se_pv (pv 3)) sa_nil)))
      (sss_cons (ss_set (i := 6) sc_Rooted_sign.nd rfl (by first | exact Or.inl rfl | exact Or.inr rfl) (se_op or_mul (se_mt (n := 1) (tblr_sign (ln_Rooted_sign n)) (fun _ => tbrF_sign T ih (hr.mono (by first | decide | omega)) (hr.mono (by first | decide | omega))) (se_pv (pv 2)) (sa_cons (se_pv (pv 4)) sa_nil)) (se_mt (n := 1) (tblr_sign (ln_Rooted_sign n)) (fun _ => tbrF_sign T ih (hr.mono (by first | decide | omega)) (hr.mono (by first | decide | omega))) (se_pv (pv 2)) (sa_cons (se_fld (fun _ => atF_under T) (se_pv (pv 0)) rfl) sa_nil))))
      (sss_cons (ss_if (sw_pt (sw_or (st_cmp (or_eq hr.units) (se_pv (pv 6)) se_int (nomark _)) (sw_or1 (st_cmp (or_eq hr.units) (se_pv (pv 5)) (se_pv (pv 6)) (nomark _))))) (sss_one (ss_ret (se_pv (pv 5)))) sss_nil)
      (sss_cons (ss_if (st_cmp (or_eq hr.units) (se_pv (pv 5)) se_int (nomark _)) (sss_one (ss_ret (se_pv (pv 6)))) sss_nil)
      (sss_cons (ss_set (i := 7) sc_Rooted_sign.nd rfl (by first | exact Or.inl rfl | exact Or.inr rfl) (se_mt (n := 2) tbl_times (fun _ => tbF_times T (hr.mono (by first | decide | omega))) (se_pv (pv 2)) (sa_cons (se_fld (fun _ => atF_under T) (se_pv (pv 0)) rfl) (sa_cons (se_mt (n := 2) tbl_times (fun _ => tbF_times T (hr.mono (by first | decide | omega))) (se_pv (pv 2)) (sa_cons (se_pv (pv 4)) (sa_cons (se_pv (pv 4)) sa_nil))) sa_nil))))
      (sss_cons (ss_set (i := 8) sc_Rooted_sign.nd rfl (by first | exact Or.inl rfl | exact Or.inr rfl) (se_mt (n := 2) tbl_plus (fun _ => tbF_plus T (hr.mono (by first | decide | omega))) (se_pv (pv 2)) (sa_cons (se_mt (n := 2) tbl_times (fun _ => tbF_times T (hr.mono (by first | decide | omega))) (se_pv (pv 2)) (sa_cons (se_pv (pv 3)) (sa_cons (se_pv (pv 3)) sa_nil))) (sa_cons (se_mt (n := 2) tbl_scaled (fun _ => tbF_scaled T (hr.mono (by first | decide | omega))) (se_pv (pv 2)) (sa_cons (se_pv (pv 7)) (sa_cons (se_un ur_neg se_int) sa_nil))) sa_nil))))
      (sss_one (ss_ret (se_op or_mul (se_pv (pv 5)) (se_mt (n := 1) (tblr_sign (ln_Rooted_sign n)) (fun _ => tbrF_sign T ih (hr.mono (by first | decide | omega)) (hr.mono (by first | decide | omega))) (se_pv (pv 2)) (sa_cons (se_pv (pv 8)) sa_nil)))))))))))))
theorem tbF_sign (T : Tx K mg) {A : Around} (hr : Room 16 A) : ∀ (c : Nat) (g : GL), tb_sign c = some g → Cls K (gm T c) ∧ ∃ k f fd ps, Meth K (gm T c) "sign" f ∧ FnOk P w K mg base CX0 k f fd ps (spM ⟨K, gm T⟩ 2 g) ∧ Room k A ∧ Binds K fd ps []
  | 0, _, e => by cases e; exact ⟨T.cl_Whole, _, _, _, _, T.M_Whole_sign, okS_Whole_sign T, hr.mono (by decide), T.b_Whole_sign⟩
  | 1, _, e => by cases e; exact ⟨T.cl_Rooted, _, _, _, _, T.M_Rooted_sign, okS_Rooted_sign T 4, hr.mono (by decide), T.b_Rooted_sign⟩
  | _ + 2, _, e => by cases e
theorem tbF_lifted (T : Tx K mg) {A : Around} (hr : Room 7 A) : ∀ (c : Nat) (g : GL), tb_lifted c = some g → Cls K (gm T c) ∧ ∃ k f fd ps, Meth K (gm T c) "lifted" f ∧ FnOk P w K mg base CX0 k f fd ps (spM ⟨K, gm T⟩ 2 g) ∧ Room k A ∧ Binds K fd ps []
  | 0, _, e => by cases e
  | 1, _, e => by cases e; exact ⟨T.cl_Rooted, _, _, _, _, T.M_Rooted_lifted, okS_Rooted_lifted T, hr.mono (by decide), T.b_Rooted_lifted⟩
  | _ + 2, _, e => by cases e
theorem okS_compare (T : Tx K mg) : FnOk P w K mg base CX0 17 T.f_compare T.d_compare ["one", "other"] (spP ⟨K, gm T⟩ 2 m_compare) :=
  okP (K := ⟨K, gm T⟩) T.F_compare sc_compare (k := 16) fun cdv A outer s H E hr =>
      (sss_cons (ss_asg (vs := [2, 3, 4]) (se_pv (pv 0)) (sg_tup (sgs_cons (sg_name (i := 2) (by decide) sc_compare.nd rfl (by first | exact Or.inl rfl | exact Or.inr rfl)) (sgs_cons (sg_name (i := 3) (by decide) sc_compare.nd rfl (by first | exact Or.inl rfl | exact Or.inr rfl)) (sgs_cons (sg_name (i := 4) (by decide) sc_compare.nd rfl (by first | exact Or.inl rfl | exact Or.inr rfl)) sgs_nil)))))
      (sss_cons (ss_asg (vs := [5, 6, 7]) (se_pv (pv 1)) (sg_tup (sgs_cons (sg_name (i := 5) (by decide) sc_compare.nd rfl (by first | exact Or.inl rfl | exact Or.inr rfl)) (sgs_cons (sg_name (i := 6) (by decide) sc_compare.nd rfl (by first | exact Or.inl rfl | exact Or.inr rfl)) (sgs_cons (sg_name (i := 7) (by decide) sc_compare.nd rfl (by first | exact Or.inl rfl | exact Or.inr rfl)) sgs_nil)))))
      (sss_cons (ss_set (i := 8) sc_compare.nd rfl (by first | exact Or.inl rfl | exact Or.inr rfl) (se_op or_sub (se_op or_mul (se_ix xr_ix (se_pv (pv 2)) se_int (fun _ _ => rfl)) (se_ix xr_ix (se_pv (pv 5)) se_int (fun _ _ => rfl))) (se_op or_mul (se_ix xr_ix (se_pv (pv 5)) se_int (fun _ _ => rfl)) (se_ix xr_ix (se_pv (pv 2)) se_int (fun _ _ => rfl)))))
      (sss_cons (ss_if (sw_pt (sw_and (st_cmp (or_eq hr.units) (se_op or_mul (se_ix xr_ix (se_pv (pv 3)) se_int (fun _ _ => rfl)) (se_ix xr_ix (se_pv (pv 4)) se_int (fun _ _ => rfl))) se_int (nomark _)) (sw_and1 (st_cmp (or_eq hr.units) (se_op or_mul (se_ix xr_ix (se_pv (pv 6)) se_int (fun _ _ => rfl)) (se_ix xr_ix (se_pv (pv 7)) se_int (fun _ _ => rfl))) se_int (nomark _))))) (sss_one (ss_ret (se_mt (n := 1) tbl_sign (fun _ => tbF_sign T (hr.mono (by first | decide | omega))) (se_mk0 (c := 0) (fun _ => T.mk_Whole) (by rfl) T.g_Whole) (sa_cons (se_pv (pv 8)) sa_nil)))) sss_nil)
      (sss_cons (ss_set (i := 9) sc_compare.nd rfl (by first | exact Or.inl rfl | exact Or.inr rfl) (se_op or_mul (se_ix xr_ix (se_pv (pv 2)) se_int (fun _ _ => rfl)) (se_ix xr_ix (se_pv (pv 5)) se_int (fun _ _ => rfl))))
      (sss_cons (ss_set (i := 10) sc_compare.nd rfl (by first | exact Or.inl rfl | exact Or.inr rfl) (se_op or_mul (se_ix xr_ix (se_pv (pv 3)) se_int (fun _ _ => rfl)) (se_ix xr_ix (se_pv (pv 4)) se_int (fun _ _ => rfl))))
      (sss_cons (ss_set (i := 11) sc_compare.nd rfl (by first | exact Or.inl rfl | exact Or.inr rfl) (se_op or_mul (se_ix xr_ix (se_pv (pv 6)) se_int (fun _ _ => rfl)) (se_ix xr_ix (se_pv (pv 7)) se_int (fun _ _ => rfl))))
      (sss_cons (ss_set (i := 12) sc_compare.nd rfl (by first | exact Or.inl rfl | exact Or.inr rfl) (se_mk (c := 1) (n := 3) ln_Rooted___init__ (fun _ => T.mk_Rooted) (fun _ => okS_Rooted___init__ T) (hr.mono (by first | decide | omega)) (by rfl) T.g_Rooted (fun _ => T.b_Rooted___init__) (sa_cons (se_mk0 (c := 0) (fun _ => T.mk_Whole) (by rfl) T.g_Whole) (sa_cons (se_op or_mul (se_ix xr_ix (se_pv (pv 4)) se_int (fun _ _ => rfl)) (se_ix xr_ix (se_pv (pv 4)) se_int (fun _ _ => rfl))) sa_nil))))
      (sss_cons (ss_set (i := 13) sc_compare.nd rfl (by first | exact Or.inl rfl | exact Or.inr rfl) (se_mk (c := 1) (n := 3) ln_Rooted___init__ (fun _ => T.mk_Rooted) (fun _ => okS_Rooted___init__ T) (hr.mono (by first | decide | omega)) (by rfl) T.g_Rooted (fun _ => T.b_Rooted___init__) (sa_cons (se_pv (pv 12)) (sa_cons (se_mt (n := 1) tbl_lifted (fun _ => tbF_lifted T (hr.mono (by first | decide | omega))) (se_pv (pv 12)) (sa_cons (se_op or_mul (se_ix xr_ix (se_pv (pv 7)) se_int (fun _ _ => rfl)) (se_ix xr_ix (se_pv (pv 7)) se_int (fun _ _ => rfl))) sa_nil)) sa_nil))))
      (sss_cons (ss_set (i := 14) sc_compare.nd rfl (by first | exact Or.inl rfl | exact Or.inr rfl) (se_tup (sa_cons (se_op or_mul (se_op or_mul (se_pv (pv 8)) (se_pv (pv 10))) (se_pv (pv 11))) (sa_cons (se_op or_mul (se_op or_mul (se_ix xr_ix (se_pv (pv 3)) se_int (fun _ _ => rfl)) (se_pv (pv 9))) (se_pv (pv 11))) sa_nil))))
      (sss_one (ss_ret (se_mt (n := 1) tbl_sign (fun _ => tbF_sign T (hr.mono (by first | decide | omega))) (se_pv (pv 13)) (sa_cons (se_tup (sa_cons (se_pv (pv 14)) (sa_cons (se_mt (n := 1) tbl_lifted (fun _ => tbF_lifted T (hr.mono (by first | decide | omega))) (se_pv (pv 12)) (sa_cons (se_op or_mul (se_op or_mul (se_un ur_neg (se_ix xr_ix (se_pv (pv 6)) se_int (fun _ _ => rfl))) (se_pv (pv 9))) (se_pv (pv 10))) sa_nil)) sa_nil))) sa_nil))))))))))))))
theorem okS_slabs_of (T : Tx K mg) : FnOk P w K mg base CX0 4 T.f_slabs_of T.d_slabs_of ["leaf"] (spM ⟨K, gm T⟩ 1 m_slabs_of) :=
  okM (K := ⟨K, gm T⟩) T.F_slabs_of sc_slabs_of (k := 3) fun cdv A outer s H E hr =>
      (sss_cons (ss_par3 (i := 1) (j := 2) (l := 3) sc_slabs_of.nd rfl rfl rfl (by decide) (by decide) (by decide) rfl rfl rfl (sa_cons (se_ix xr_ix (se_pv (pv 0)) se_int (fun _ _ => rfl)) (sa_cons (se_ix xr_ix (se_pv (pv 0)) se_int (fun _ _ => rfl)) (sa_cons (se_ix xr_ix (se_pv (pv 0)) se_int (fun _ _ => rfl)) sa_nil))) (by rfl))
      (sss_cons (ss_if (st_cmp (or_eq hr.units) (se_ix xr_ix (se_pv (pv 1)) se_int (fun _ _ => rfl)) se_str (nomark _)) (sss_cons (ss_set (i := 4) sc_slabs_of.nd rfl (by first | exact Or.inl rfl | exact Or.inr rfl) (se_callP (n := 2) (lo_turned) (fun _ => (okS_turned T)) (hr.mono (by first | decide | omega)) (by rfl) T.g_turned (fun _ => T.F_turned.kp) (fun _ => T.b_turned) (sa_cons (se_pv (pv 2)) (sa_cons (se_ix xr_ix (se_pv (pv 1)) se_int (fun _ _ => rfl)) sa_nil))))
      (sss_one (ss_ret (se_lst (sa_cons (se_tup (sa_cons (se_pv (pv 4)) (sa_cons se_non (sa_cons (se_callP (n := 2) (lo_plus) (fun _ => (okS_plus T)) (hr.mono (by first | decide | omega)) (by rfl) T.g_plus (fun _ => T.F_plus.kp) (fun _ => T.b_plus) (sa_cons (se_ix xr_ix (se_pv (pv 1)) se_int (fun _ _ => rfl)) (sa_cons (se_callP (n := 2) (lo_dot) (fun _ => (okS_dot T)) (hr.mono (by first | decide | omega)) (by rfl) T.g_dot (fun _ => T.F_dot.kp) (fun _ => T.b_dot) (sa_cons (se_pv (pv 4)) (sa_cons (se_pv (pv 3)) sa_nil))) sa_nil))) (sa_cons se_non (sa_cons se_int sa_nil)))))) sa_nil))))) sss_nil)
      (sss_cons (ss_set (i := 5) sc_slabs_of.nd rfl (by first | exact Or.inl rfl | exact Or.inr rfl) (se_lst sa_nil))
      (sss_cons (ss_for (vs := [6, 4]) PassesOwn.never (si_enum (by rfl) T.m_enumerate (se_callP (n := 1) (lo_columns_of) (fun _ => (okS_columns_of T)) (hr.mono (by first | decide | omega)) (by rfl) T.g_columns_of (fun _ => T.F_columns_of.kp) (fun _ => T.b_columns_of) (sa_cons (se_pv (pv 2)) sa_nil))) (sg_tup (sgs_cons (sg_name (i := 6) (by decide) sc_slabs_of.nd rfl (by first | exact Or.inl rfl | exact Or.inr rfl)) (sgs_cons (sg_name (i := 4) (by decide) sc_slabs_of.nd rfl (by first | exact Or.inl rfl | exact Or.inr rfl)) sgs_nil))) (sss_cons (ss_set (i := 7) sc_slabs_of.nd rfl (by first | exact Or.inl rfl | exact Or.inr rfl) (se_callP (n := 2) (lo_dot) (fun _ => (okS_dot T)) (hr.mono (by first | decide | omega)) (by rfl) T.g_dot (fun _ => T.F_dot.kp) (fun _ => T.b_dot) (sa_cons (se_pv (pv 4)) (sa_cons (se_pv (pv 3)) sa_nil))))
      (sss_one (ss_expr (se_app (se_pv (pv 5)) (sa_cons (se_tup (sa_cons (se_pv (pv 4)) (sa_cons (se_callP (n := 2) (lo_plus) (fun _ => (okS_plus T)) (hr.mono (by first | decide | omega)) (by rfl) T.g_plus (fun _ => T.F_plus.kp) (fun _ => T.b_plus) (sa_cons (se_ix xr_ix (se_ix xr_ix (se_pv (pv 1)) se_int (fun _ _ => rfl)) (se_pv (pv 6)) (fun _ _ => rfl)) (sa_cons (se_pv (pv 7)) sa_nil))) (sa_cons (se_callP (n := 2) (lo_plus) (fun _ => (okS_plus T)) (hr.mono (by first | decide | omega)) (by rfl) T.g_plus (fun _ => T.F_plus.kp) (fun _ => T.b_plus) (sa_cons (se_ix xr_ix (se_ix xr_ix (se_pv (pv 1)) se_int (fun _ _ => rfl)) (se_pv (pv 6)) (fun _ _ => rfl)) (sa_cons (se_pv (pv 7)) sa_nil))) (sa_cons (se_op or_mul se_int (se_pv (pv 6))) (sa_cons (se_op or_add (se_op or_mul se_int (se_pv (pv 6))) se_int) sa_nil)))))) sa_nil))))))
      (sss_one (ss_ret (se_pv (pv 5))))))))
theorem okS_ball_of (T : Tx K mg) : FnOk P w K mg base CX0 4 T.f_ball_of T.d_ball_of ["leaf"] (spP ⟨K, gm T⟩ 1 m_ball_of) :=
  okP (K := ⟨K, gm T⟩) T.F_ball_of sc_ball_of (k := 3) fun cdv A outer s H E hr =>
      (sss_cons (ss_par3 (i := 1) (j := 2) (l := 3) sc_ball_of.nd rfl rfl rfl (by decide) (by decide) (by decide) rfl rfl rfl (sa_cons (se_ix xr_ix (se_pv (pv 0)) se_int (fun _ _ => rfl)) (sa_cons (se_ix xr_ix (se_pv (pv 0)) se_int (fun _ _ => rfl)) (sa_cons (se_ix xr_ix (se_pv (pv 0)) se_int (fun _ _ => rfl)) sa_nil))) (by rfl))
      (sss_one (ss_ret (se_tup (sa_cons (se_callP (n := 2) (lo_together) (fun _ => (okS_together T)) (hr.mono (by first | decide | omega)) (by rfl) T.g_together (fun _ => T.F_together.kp) (fun _ => T.b_together) (sa_cons (se_callP (n := 2) (lo_turned) (fun _ => (okS_turned T)) (hr.mono (by first | decide | omega)) (by rfl) T.g_turned (fun _ => T.F_turned.kp) (fun _ => T.b_turned) (sa_cons (se_pv (pv 2)) (sa_cons (se_ix xr_ix (se_pv (pv 1)) se_int (fun _ _ => rfl)) sa_nil))) (sa_cons (se_pv (pv 3)) sa_nil))) (sa_cons (se_ix xr_ix (se_pv (pv 1)) se_int (fun _ _ => rfl)) sa_nil))))))
theorem okS_directed (T : Tx K mg) : FnOk P w K mg base CX0 1 T.f_directed T.d_directed ["towards", "to_low", "to_high", "slab"] (spP ⟨K, gm T⟩ 4 m_directed) :=
  okP (K := ⟨K, gm T⟩) T.F_directed sc_directed (k := 0) fun cdv A outer s H E hr =>
      (sss_cons (ss_if (st_cmp or_gt (se_pv (pv 0)) se_int (nomark _)) (sss_one (ss_ret (se_tup (sa_cons (se_pv (pv 1)) (sa_cons (se_pv (pv 2)) (sa_cons (se_ix xr_ix (se_pv (pv 3)) se_int (fun _ _ => rfl)) (sa_cons (se_ix xr_ix (se_pv (pv 3)) se_int (fun _ _ => rfl)) sa_nil))))))) sss_nil)
      (sss_one (ss_ret (se_tup (sa_cons (se_pv (pv 2)) (sa_cons (se_pv (pv 1)) (sa_cons (se_ix xr_ix (se_pv (pv 3)) se_int (fun _ _ => rfl)) (sa_cons (se_ix xr_ix (se_pv (pv 3)) se_int (fun _ _ => rfl)) sa_nil))))))))
theorem fvF (T : Tx K mg) : ∀ (n : Nat) (m : List D → Option D), fv n = some m → ∃ fd ps, FnOk P w K mg base CX0 17 (gm T n) fd ps (spP ⟨K, gm T⟩ 2 m) ∧ PySem.W.keepIn K (.ref (gm T n)) = true ∧ Binds K fd ps []
  | 0, _, e => by cases e
  | 1, _, e => by cases e
  | 2, _, e => by cases e; exact ⟨_, _, (okS_compare T).mono (by decide), T.F_compare.kp, T.b_compare⟩
  | _ + 3, _, e => by cases e
theorem okS_met (T : Tx K mg) : FnOk P w K mg base CX0 18 T.f_met T.d_met ["spans", "order"] (spM ⟨K, gm T⟩ 2 m_met) :=
  okM (K := ⟨K, gm T⟩) T.F_met sc_met (k := 17) fun cdv A outer s H E hr =>
      (sss_cons (ss_as4 (v1 := [2]) (v2 := [3]) (v3 := [4]) (v4 := [5]) se_non (sg_name (i := 2) (by decide) sc_met.nd rfl (by first | exact Or.inl rfl | exact Or.inr rfl)) (sg_name (i := 3) (by decide) sc_met.nd rfl (by first | exact Or.inl rfl | exact Or.inr rfl)) (sg_name (i := 4) (by decide) sc_met.nd rfl (by first | exact Or.inl rfl | exact Or.inr rfl)) (sg_name (i := 5) (by decide) sc_met.nd rfl (by first | exact Or.inl rfl | exact Or.inr rfl)))
      (sss_cons (ss_for (vs := [6]) PassesOwn.never (si_e (se_pv (pv 0))) (sg_name (i := 6) (by decide) sc_met.nd rfl (by first | exact Or.inl rfl | exact Or.inr rfl)) (sss_cons (ss_if (st_cmp or_isN (se_pv (pv 6)) se_non (nomark _)) (sss_one (ss_ret se_non)) sss_nil)
      (sss_cons (ss_if (sw_pt (sw_and (st_cmp or_notN (se_ix xr_ix (se_pv (pv 6)) se_int (fun _ _ => rfl)) se_non (nomark _)) (sw_and1 (sw_pt (sw_or (st_cmp or_isN (se_pv (pv 2)) se_non (nomark _)) (sw_or1 (st_cmp or_gt (se_callV (np := 2) fvl (fun _ => fvF T) (hr.mono (by first | decide | omega)) rfl (by first | exact Or.inl rfl | exact Or.inr (Or.inl rfl) | exact Or.inr (Or.inr rfl)) (sa_cons (se_ix xr_ix (se_pv (pv 6)) se_int (fun _ _ => rfl)) (sa_cons (se_pv (pv 2)) sa_nil))) se_int (nomark _)))))))) (sss_one (ss_par (i := 2) (j := 4) sc_met.nd rfl rfl (by decide) rfl rfl (sa_cons (se_ix xr_ix (se_pv (pv 6)) se_int (fun _ _ => rfl)) (sa_cons (se_ix xr_ix (se_pv (pv 6)) se_int (fun _ _ => rfl)) sa_nil)) (by rfl))) sss_nil)
      (sss_one (ss_if (sw_pt (sw_and (st_cmp or_notN (se_ix xr_ix (se_pv (pv 6)) se_int (fun _ _ => rfl)) se_non (nomark _)) (sw_and1 (sw_pt (sw_or (st_cmp or_isN (se_pv (pv 3)) se_non (nomark _)) (sw_or1 (st_cmp or_lt (se_callV (np := 2) fvl (fun _ => fvF T) (hr.mono (by first | decide | omega)) rfl (by first | exact Or.inl rfl | exact Or.inr (Or.inl rfl) | exact Or.inr (Or.inr rfl)) (sa_cons (se_ix xr_ix (se_pv (pv 6)) se_int (fun _ _ => rfl)) (sa_cons (se_pv (pv 3)) sa_nil))) se_int (nomark _)))))))) (sss_one (ss_par (i := 3) (j := 5) sc_met.nd rfl rfl (by decide) rfl rfl (sa_cons (se_ix xr_ix (se_pv (pv 6)) se_int (fun _ _ => rfl)) (sa_cons (se_ix xr_ix (se_pv (pv 6)) se_int (fun _ _ => rfl)) sa_nil)) (by rfl))) sss_nil)))))
      (sss_cons (ss_if (sw_pt (sw_and (st_cmp or_notN (se_pv (pv 2)) se_non (nomark _)) (sw_and (st_cmp or_notN (se_pv (pv 3)) se_non (nomark _)) (sw_and1 (st_cmp or_ge (se_callV (np := 2) fvl (fun _ => fvF T) (hr.mono (by first | decide | omega)) rfl (by first | exact Or.inl rfl | exact Or.inr (Or.inl rfl) | exact Or.inr (Or.inr rfl)) (sa_cons (se_pv (pv 2)) (sa_cons (se_pv (pv 3)) sa_nil))) se_int (nomark _)))))) (sss_one (ss_ret se_non)) sss_nil)
      (sss_one (ss_ret (se_tup (sa_cons (se_pv (pv 2)) (sa_cons (se_pv (pv 3)) (sa_cons (se_pv (pv 4)) (sa_cons (se_pv (pv 5)) sa_nil))))))))))
theorem okS_flat_moment (T : Tx K mg) : FnOk P w K mg base CX0 3 T.f_flat_moment T.d_flat_moment ["gap", "slope"] (spP ⟨K, gm T⟩ 2 m_flat_moment) :=
  okP (K := ⟨K, gm T⟩) T.F_flat_moment sc_flat_moment (k := 2) fun cdv A outer s H E hr =>
      (sss_one (ss_ret (se_if (st_cmp or_isN (se_pv (pv 0)) se_non (nomark _)) se_non (se_tup (sa_cons (se_callP (n := 2) (lo_over) (fun _ => (okS_over T)) (hr.mono (by first | decide | omega)) (by rfl) T.g_over (fun _ => T.F_over.kp) (fun _ => T.b_over) (sa_cons (se_pv (pv 0)) (sa_cons (se_pv (pv 1)) sa_nil))) (sa_cons (se_glob (v := .ref T.a_NOUGHT) (by rfl) T.g_NOUGHT rfl (T.k_NOUGHT _)) (sa_cons (se_glob (v := .ref T.a_NOUGHT) (by rfl) T.g_NOUGHT rfl (T.k_NOUGHT _)) sa_nil)))))))
theorem okS_slab_stretch (T : Tx K mg) : FnOk P w K mg base CX0 4 T.f_slab_stretch T.d_slab_stretch ["slab", "ray"] (spP ⟨K, gm T⟩ 2 m_slab_stretch) :=
  okP (K := ⟨K, gm T⟩) T.F_slab_stretch sc_slab_stretch (k := 3) fun cdv A outer s H E hr =>
      (sss_cons (ss_par3 (i := 2) (j := 3) (l := 4) sc_slab_stretch.nd rfl rfl rfl (by decide) (by decide) (by decide) rfl rfl rfl (sa_cons (se_ix xr_ix (se_pv (pv 0)) se_int (fun _ _ => rfl)) (sa_cons (se_ix xr_ix (se_pv (pv 0)) se_int (fun _ _ => rfl)) (sa_cons (se_ix xr_ix (se_pv (pv 0)) se_int (fun _ _ => rfl)) sa_nil))) (by rfl))
      (sss_cons (ss_par (i := 5) (j := 6) sc_slab_stretch.nd rfl rfl (by decide) rfl rfl (sa_cons (se_callP (n := 2) (lo_dot) (fun _ => (okS_dot T)) (hr.mono (by first | decide | omega)) (by rfl) T.g_dot (fun _ => T.F_dot.kp) (fun _ => T.b_dot) (sa_cons (se_pv (pv 2)) (sa_cons (se_ix xr_ix (se_pv (pv 1)) se_int (fun _ _ => rfl)) sa_nil))) (sa_cons (se_callP (n := 2) (lo_dot) (fun _ => (okS_dot T)) (hr.mono (by first | decide | omega)) (by rfl) T.g_dot (fun _ => T.F_dot.kp) (fun _ => T.b_dot) (sa_cons (se_pv (pv 2)) (sa_cons (se_ix xr_ix (se_pv (pv 1)) se_int (fun _ _ => rfl)) sa_nil))) sa_nil)) (by rfl))
      (sss_cons (ss_set (i := 7) sc_slab_stretch.nd rfl (by first | exact Or.inl rfl | exact Or.inr rfl) (se_if (st_cmp or_isN (se_pv (pv 3)) se_non (nomark _)) se_non (se_callP (n := 2) (lo_minus) (fun _ => (okS_minus T)) (hr.mono (by first | decide | omega)) (by rfl) T.g_minus (fun _ => T.F_minus.kp) (fun _ => T.b_minus) (sa_cons (se_pv (pv 3)) (sa_cons (se_pv (pv 5)) sa_nil)))))
      (sss_cons (ss_set (i := 8) sc_slab_stretch.nd rfl (by first | exact Or.inl rfl | exact Or.inr rfl) (se_callP (n := 2) (lo_minus) (fun _ => (okS_minus T)) (hr.mono (by first | decide | omega)) (by rfl) T.g_minus (fun _ => T.F_minus.kp) (fun _ => T.b_minus) (sa_cons (se_pv (pv 4)) (sa_cons (se_pv (pv 5)) sa_nil))))
      (sss_cons (ss_set (i := 9) sc_slab_stretch.nd rfl (by first | exact Or.inl rfl | exact Or.inr rfl) (se_callP (n := 1) (lo_sign) (fun _ => (okS_sign T)) (hr.mono (by first | decide | omega)) (by rfl) T.g_sign (fun _ => T.F_sign.kp) (fun _ => T.b_sign) (sa_cons (se_pv (pv 6)) sa_nil)))
      (sss_cons (ss_if (st_cmp (or_eq hr.units) (se_pv (pv 9)) se_int (nomark _)) (sss_cons (ss_set (i := 10) sc_slab_stretch.nd rfl (by first | exact Or.inl rfl | exact Or.inr rfl) (se_and (se_cmp or_gt (se_callP (n := 1) (lo_sign) (fun _ => (okS_sign T)) (hr.mono (by first | decide | omega)) (by rfl) T.g_sign (fun _ => T.F_sign.kp) (fun _ => T.b_sign) (sa_cons (se_pv (pv 8)) sa_nil)) se_int (nomark _)) (se_one (se_or (se_cmp or_isN (se_pv (pv 7)) se_non (nomark _)) (se_one (se_cmp or_lt (se_callP (n := 1) (lo_sign) (fun _ => (okS_sign T)) (hr.mono (by first | decide | omega)) (by rfl) T.g_sign (fun _ => T.F_sign.kp) (fun _ => T.b_sign) (sa_cons (se_pv (pv 7)) sa_nil)) se_int (nomark _)))))))
      (sss_one (ss_ret (se_if (st_tru (se_pv (pv 10)) (by intro _; rfl)) (se_glob (v := .ref T.a_ALWAYS) (by rfl) T.g_ALWAYS rfl (T.k_ALWAYS _)) se_non)))) sss_nil)
      (sss_one (ss_ret (se_callP (n := 4) (lo_directed) (fun _ => (okS_directed T)) (hr.mono (by first | decide | omega)) (by rfl) T.g_directed (fun _ => T.F_directed.kp) (fun _ => T.b_directed) (sa_cons (se_pv (pv 9)) (sa_cons (se_callP (n := 2) (lo_flat_moment) (fun _ => (okS_flat_moment T)) (hr.mono (by first | decide | omega)) (by rfl) T.g_flat_moment (fun _ => T.F_flat_moment.kp) (fun _ => T.b_flat_moment) (sa_cons (se_pv (pv 7)) (sa_cons (se_pv (pv 6)) sa_nil))) (sa_cons (se_callP (n := 2) (lo_flat_moment) (fun _ => (okS_flat_moment T)) (hr.mono (by first | decide | omega)) (by rfl) T.g_flat_moment (fun _ => T.F_flat_moment.kp) (fun _ => T.b_flat_moment) (sa_cons (se_pv (pv 8)) (sa_cons (se_pv (pv 6)) sa_nil))) (sa_cons (se_pv (pv 0)) sa_nil)))))))))))))
theorem okS_ball_stretch (T : Tx K mg) : FnOk P w K mg base CX0 5 T.f_ball_stretch T.d_ball_stretch ["leaf", "ray"] (spP ⟨K, gm T⟩ 2 m_ball_stretch) :=
  okP (K := ⟨K, gm T⟩) T.F_ball_stretch sc_ball_stretch (k := 4) fun cdv A outer s H E hr =>
      (sss_cons (ss_asg (vs := [2, 3]) (se_callP (n := 1) (lo_ball_of) (fun _ => (okS_ball_of T)) (hr.mono (by first | decide | omega)) (by rfl) T.g_ball_of (fun _ => T.F_ball_of.kp) (fun _ => T.b_ball_of) (sa_cons (se_pv (pv 0)) sa_nil)) (sg_tup (sgs_cons (sg_name (i := 2) (by decide) sc_ball_stretch.nd rfl (by first | exact Or.inl rfl | exact Or.inr rfl)) (sgs_cons (sg_name (i := 3) (by decide) sc_ball_stretch.nd rfl (by first | exact Or.inl rfl | exact Or.inr rfl)) sgs_nil))))
      (sss_cons (ss_asg (vs := [4, 5]) (se_pv (pv 1)) (sg_tup (sgs_cons (sg_name (i := 4) (by decide) sc_ball_stretch.nd rfl (by first | exact Or.inl rfl | exact Or.inr rfl)) (sgs_cons (sg_name (i := 5) (by decide) sc_ball_stretch.nd rfl (by first | exact Or.inl rfl | exact Or.inr rfl)) sgs_nil))))
      (sss_cons (ss_set (i := 6) sc_ball_stretch.nd rfl (by first | exact Or.inl rfl | exact Or.inr rfl) (se_callP (n := 2) (lo_way_between) (fun _ => (okS_way_between T)) (hr.mono (by first | decide | omega)) (by rfl) T.g_way_between (fun _ => T.F_way_between.kp) (fun _ => T.b_way_between) (sa_cons (se_pv (pv 2)) (sa_cons (se_pv (pv 4)) sa_nil))))
      (sss_cons (ss_set (i := 7) sc_ball_stretch.nd rfl (by first | exact Or.inl rfl | exact Or.inr rfl) (se_callP (n := 2) (lo_dot) (fun _ => (okS_dot T)) (hr.mono (by first | decide | omega)) (by rfl) T.g_dot (fun _ => T.F_dot.kp) (fun _ => T.b_dot) (sa_cons (se_pv (pv 5)) (sa_cons (se_pv (pv 5)) sa_nil))))
      (sss_cons (ss_set (i := 8) sc_ball_stretch.nd rfl (by first | exact Or.inl rfl | exact Or.inr rfl) (se_callP (n := 2) (lo_dot) (fun _ => (okS_dot T)) (hr.mono (by first | decide | omega)) (by rfl) T.g_dot (fun _ => T.F_dot.kp) (fun _ => T.b_dot) (sa_cons (se_pv (pv 5)) (sa_cons (se_pv (pv 6)) sa_nil))))
      (sss_cons (ss_set (i := 9) sc_ball_stretch.nd rfl (by first | exact Or.inl rfl | exact Or.inr rfl) (se_callP (n := 2) (lo_minus) (fun _ => (okS_minus T)) (hr.mono (by first | decide | omega)) (by rfl) T.g_minus (fun _ => T.F_minus.kp) (fun _ => T.b_minus) (sa_cons (se_callP (n := 2) (lo_dot) (fun _ => (okS_dot T)) (hr.mono (by first | decide | omega)) (by rfl) T.g_dot (fun _ => T.F_dot.kp) (fun _ => T.b_dot) (sa_cons (se_pv (pv 6)) (sa_cons (se_pv (pv 6)) sa_nil))) (sa_cons (se_callP (n := 2) (lo_times) (fun _ => (okS_times T)) (hr.mono (by first | decide | omega)) (by rfl) T.g_times (fun _ => T.F_times.kp) (fun _ => T.b_times) (sa_cons (se_pv (pv 3)) (sa_cons (se_pv (pv 3)) sa_nil))) sa_nil))))
      (sss_cons (ss_set (i := 10) sc_ball_stretch.nd rfl (by first | exact Or.inl rfl | exact Or.inr rfl) (se_callP (n := 2) (lo_minus) (fun _ => (okS_minus T)) (hr.mono (by first | decide | omega)) (by rfl) T.g_minus (fun _ => T.F_minus.kp) (fun _ => T.b_minus) (sa_cons (se_callP (n := 2) (lo_times) (fun _ => (okS_times T)) (hr.mono (by first | decide | omega)) (by rfl) T.g_times (fun _ => T.F_times.kp) (fun _ => T.b_times) (sa_cons (se_pv (pv 8)) (sa_cons (se_pv (pv 8)) sa_nil))) (sa_cons (se_callP (n := 2) (lo_times) (fun _ => (okS_times T)) (hr.mono (by first | decide | omega)) (by rfl) T.g_times (fun _ => T.F_times.kp) (fun _ => T.b_times) (sa_cons (se_pv (pv 7)) (sa_cons (se_pv (pv 9)) sa_nil))) sa_nil))))
      (sss_cons (ss_if (st_cmp or_le (se_callP (n := 1) (lo_sign) (fun _ => (okS_sign T)) (hr.mono (by first | decide | omega)) (by rfl) T.g_sign (fun _ => T.F_sign.kp) (fun _ => T.b_sign) (sa_cons (se_pv (pv 10)) sa_nil)) se_int (nomark _)) (sss_one (ss_ret se_non)) sss_nil)
      (sss_cons (ss_set (i := 11) sc_ball_stretch.nd rfl (by first | exact Or.inl rfl | exact Or.inr rfl) (se_callP (n := 2) (lo_over) (fun _ => (okS_over T)) (hr.mono (by first | decide | omega)) (by rfl) T.g_over (fun _ => T.F_over.kp) (fun _ => T.b_over) (sa_cons (se_callP (n := 2) (lo_minus) (fun _ => (okS_minus T)) (hr.mono (by first | decide | omega)) (by rfl) T.g_minus (fun _ => T.F_minus.kp) (fun _ => T.b_minus) (sa_cons (se_glob (v := .ref T.a_NOUGHT) (by rfl) T.g_NOUGHT rfl (T.k_NOUGHT _)) (sa_cons (se_pv (pv 8)) sa_nil))) (sa_cons (se_pv (pv 7)) sa_nil))))
      (sss_one (ss_ret (se_tup (sa_cons (se_tup (sa_cons (se_pv (pv 11)) (sa_cons (se_callP (n := 2) (lo_over) (fun _ => (okS_over T)) (hr.mono (by first | decide | omega)) (by rfl) T.g_over (fun _ => T.F_over.kp) (fun _ => T.b_over) (sa_cons (se_tup (sa_cons (se_un ur_neg se_int) (sa_cons se_int sa_nil))) (sa_cons (se_pv (pv 7)) sa_nil))) (sa_cons (se_pv (pv 10)) sa_nil)))) (sa_cons (se_tup (sa_cons (se_pv (pv 11)) (sa_cons (se_callP (n := 2) (lo_over) (fun _ => (okS_over T)) (hr.mono (by first | decide | omega)) (by rfl) T.g_over (fun _ => T.F_over.kp) (fun _ => T.b_over) (sa_cons (se_tup (sa_cons se_int (sa_cons se_int sa_nil))) (sa_cons (se_pv (pv 7)) sa_nil))) (sa_cons (se_pv (pv 10)) sa_nil)))) (sa_cons se_int (sa_cons se_int sa_nil))))))))))))))))
theorem okS_leaf_stretch (T : Tx K mg) : FnOk P w K mg base CX0 19 T.f_leaf_stretch T.d_leaf_stretch ["leaf", "ray"] (spP ⟨K, gm T⟩ 2 m_leaf_stretch) :=
  okP (K := ⟨K, gm T⟩) T.F_leaf_stretch sc_leaf_stretch (k := 18) fun cdv A outer s H E hr =>
      (sss_cons (ss_if (st_cmp (or_eq hr.units) (se_ix xr_ix (se_ix xr_ix (se_pv (pv 0)) se_int (fun _ _ => rfl)) se_int (fun _ _ => rfl)) se_str (nomark _)) (sss_one (ss_ret (se_callP (n := 2) (lo_ball_stretch) (fun _ => (okS_ball_stretch T)) (hr.mono (by first | decide | omega)) (by rfl) T.g_ball_stretch (fun _ => T.F_ball_stretch.kp) (fun _ => T.b_ball_stretch) (sa_cons (se_pv (pv 0)) (sa_cons (se_pv (pv 1)) sa_nil))))) sss_nil)
      (sss_one (ss_ret (se_callM (n := 2) (ln_met) (fun _ => (okS_met T)) (hr.mono (by first | decide | omega)) (by rfl) T.g_met (fun _ => T.F_met.kp) (fun _ => T.b_met) (sa_cons (se_lc (own := [("slab", 2)]) sc_leaf_stretch.nd (si_e (se_callM (n := 1) (ln_slabs_of) (fun _ => (okS_slabs_of T)) (hr.mono (by first | decide | omega)) (by rfl) T.g_slabs_of (fun _ => T.F_slabs_of.kp) (fun _ => T.b_slabs_of) (sa_cons (se_pv (pv 0)) sa_nil))) (blkOk_by (own := [("slab", 2)]) (N := nm_leaf_stretch) (sc := defScope s_leaf_stretch) (by decide +kernel)) (fun _ _ _ _ _ => (sg_name (i := 2) (by decide) sc_leaf_stretch.nd rfl (by first | exact Or.inl rfl | exact Or.inr rfl))) (fun _ _ _ _ _ => sts_nil) (fun _ _ _ _ _ => (se_callP (n := 2) (lo_slab_stretch) (fun _ => (okS_slab_stretch T)) (hr.mono (by first | decide | omega)) (by rfl) T.g_slab_stretch (fun _ => T.F_slab_stretch.kp) (fun _ => T.b_slab_stretch) (sa_cons (se_pv (pv 2)) (sa_cons (se_pv (pv 1)) sa_nil))))) (sa_cons (se_fn (n := 2) (by rfl) T.g_compare) sa_nil))))))
theorem okS__law_open (T : Tx K mg) : FnOk P w K mg base CX0 1 T.f__law_open T.d__law_open ["_law_script"] (spM ⟨K, gm T⟩ 1 m__law_open) :=
  okM (K := ⟨K, gm T⟩) T.F__law_open sc__law_open (k := 0) fun cdv A outer s H E hr =>
      (sss_one (ss_ret (se_lst (sa_cons (se_op or_add (se_callTy cr_list' (by rfl) T.m_list (by decide +kernel) (sa_cons (se_slice (se_pv (pv 0)) spo_none (spo_some se_int)) sa_nil)) (se_lst (sa_cons se_int sa_nil))) (sa_cons se_int (sa_cons se_int (sa_cons se_int sa_nil)))))))
theorem okS__law_pick (T : Tx K mg) : FnOk P w K mg base CX0 1 T.f__law_pick T.d__law_pick ["_law_deck", "_law_below"] (spM ⟨K, gm T⟩ 2 m__law_pick) :=
  okM (K := ⟨K, gm T⟩) T.F__law_pick sc__law_pick (k := 0) fun cdv A outer s H E hr =>
      (sss_cons (ss_if (st_cmp or_gt (se_ix xr_ix (se_pv (pv 0)) se_int (fun _ _ => rfl)) se_int (nomark _)) (sss_cons (ss_set (i := 2) sc__law_pick.nd rfl (by first | exact Or.inl rfl | exact Or.inr rfl) (se_op or_mod (se_ix xr_ix (se_pv (pv 0)) se_int (fun _ _ => rfl)) (se_pv (pv 1))))
      (sss_cons (ss_sub (se_op or_fd (se_ix xr_ix (se_pv (pv 0)) se_int (fun _ _ => rfl)) (se_pv (pv 1))) (se_pv (pv 0)) se_int)
      (sss_one (ss_ret (se_pv (pv 2)))))) sss_nil)
      (sss_cons (ss_set (i := 3) sc__law_pick.nd rfl (by first | exact Or.inl rfl | exact Or.inr rfl) (se_ix xr_ix (se_ix xr_ix (se_pv (pv 0)) se_int (fun _ _ => rfl)) (se_op or_mod (se_ix xr_ix (se_pv (pv 0)) se_int (fun _ _ => rfl)) (se_callB cr_len' (by rfl) T.m_len (by decide +kernel) (sa_cons (se_ix xr_ix (se_pv (pv 0)) se_int (fun _ _ => rfl)) sa_nil))) (fun _ _ => rfl)))
      (sss_cons (ss_sub (se_op or_add (se_ix xr_ix (se_pv (pv 0)) se_int (fun _ _ => rfl)) se_int) (se_pv (pv 0)) se_int)
      (sss_cons (ss_if (sw_pt (sw_and (st_cmp or_ge (se_pv (pv 3)) (se_op or_pow se_int se_int) (nomark _)) (sw_and1 (st_cmp or_le (se_ix xr_ix (se_pv (pv 0)) se_int (fun _ _ => rfl)) (se_callB cr_len' (by rfl) T.m_len (by decide +kernel) (sa_cons (se_ix xr_ix (se_pv (pv 0)) se_int (fun _ _ => rfl)) sa_nil)) (nomark _))))) (sss_cons (ss_sub (se_op or_fd (se_pv (pv 3)) (se_pv (pv 1))) (se_pv (pv 0)) se_int)
      (sss_one (ss_ret (se_op or_mod (se_pv (pv 3)) (se_pv (pv 1)))))) sss_nil)
      (sss_cons (ss_sub (se_op or_mod (se_op or_add (se_op or_add (se_op or_mul (se_ix xr_ix (se_pv (pv 0)) se_int (fun _ _ => rfl)) se_int) (se_op or_mod (se_pv (pv 3)) se_int)) (se_op or_mul (se_op or_mul se_int (se_ix xr_ix (se_pv (pv 0)) se_int (fun _ _ => rfl))) (se_ix xr_ix (se_pv (pv 0)) se_int (fun _ _ => rfl)))) se_int) (se_pv (pv 0)) se_int)
      (sss_one (ss_ret (se_op or_mod (se_op or_fd (se_op or_mod (se_op or_mul (se_ix xr_ix (se_pv (pv 0)) se_int (fun _ _ => rfl)) se_int) se_int) se_int) (se_pv (pv 1))))))))))
theorem okS__law_same (T : Tx K mg) : ∀ n : Nat, FnOk P w K mg base CX0 (1 + n) T.f__law_same T.d__law_same ["_law_found", "_law_due"] (spP ⟨K, gm T⟩ 2 (m__law_same n))
  | 0 => ok0P (K := ⟨K, gm T⟩)
  | n + 1 => by
    have ih := okS__law_same T n
    exact okP (K := ⟨K, gm T⟩) T.F__law_same sc__law_same (k := 1 + n) fun cdv A outer s H E hr =>
      (sss_cons (ss_if (st_tru (se_isT2 (T1 := "list") (T2 := "tuple") (by rfl) T.m_isinstance (by rfl) T.m_list (by decide +kernel) (by rfl) T.m_tuple (by decide +kernel) (se_pv (pv 1))) (by intro _; rfl)) (sss_cons (ss_if (sw_pt (sw_or (st_not (st_tru (se_isT2 (T1 := "list") (T2 := "tuple") (by rfl) T.m_isinstance (by rfl) T.m_list (by decide +kernel) (by rfl) T.m_tuple (by decide +kernel) (se_pv (pv 0))) (by intro _; rfl))) (sw_or1 (st_cmp (or_ne hr.units) (se_callB cr_isi' (by rfl) T.m_isinstance (by decide +kernel) (sa_cons (se_pv (pv 0)) (sa_cons (se_bltn (T := "list") (by rfl) T.m_list (by decide +kernel)) sa_nil))) (se_callB cr_isi' (by rfl) T.m_isinstance (by decide +kernel) (sa_cons (se_pv (pv 1)) (sa_cons (se_bltn (T := "list") (by rfl) T.m_list (by decide +kernel)) sa_nil))) (nomark _))))) (sss_one (ss_ret se_bl)) sss_nil)
      (sss_cons (ss_if (st_cmp (or_ne hr.units) (se_callB cr_len' (by rfl) T.m_len (by decide +kernel) (sa_cons (se_pv (pv 0)) sa_nil)) (se_callB cr_len' (by rfl) T.m_len (by decide +kernel) (sa_cons (se_pv (pv 1)) sa_nil)) (nomark _)) (sss_one (ss_ret se_bl)) sss_nil)
      (sss_one (ss_ret (se_callB cr_all' (by rfl) T.m_all (by decide +kernel) (sa_cons (se_lc (own := [("_law_one", 2), ("_law_other", 3)]) sc__law_same.nd (si_zip (by rfl) T.m_zip (se_pv (pv 0)) (se_pv (pv 1))) (blkOk_by (own := [("_law_one", 2), ("_law_other", 3)]) (N := nm__law_same) (sc := defScope s__law_same) (by decide +kernel)) (fun _ _ _ _ _ => (sg_tup (sgs_cons (sg_name (i := 2) (by decide) sc__law_same.nd rfl (by first | exact Or.inl rfl | exact Or.inr rfl)) (sgs_cons (sg_name (i := 3) (by decide) sc__law_same.nd rfl (by first | exact Or.inl rfl | exact Or.inr rfl)) sgs_nil)))) (fun _ _ _ _ _ => sts_nil) (fun _ _ _ _ _ => (se_callP (n := 2) (lo__law_same n) (fun _ => ih) (hr.mono (by first | decide | omega)) (by rfl) T.g__law_same (fun _ => T.F__law_same.kp) (fun _ => T.b__law_same) (sa_cons (se_pv (pv 2)) (sa_cons (se_pv (pv 3)) sa_nil))))) sa_nil)))))) sss_nil)
      (sss_cons (ss_if (st_cmp or_isN (se_pv (pv 1)) se_non (nomark _)) (sss_one (ss_ret (se_cmp or_isN (se_pv (pv 0)) se_non (nomark _)))) sss_nil)
      (sss_cons (ss_if (st_tru (se_callB cr_isi' (by rfl) T.m_isinstance (by decide +kernel) (sa_cons (se_pv (pv 1)) (sa_cons (se_bltn (T := "str") (by rfl) T.m_str (by decide +kernel)) sa_nil))) (by intro _; rfl)) (sss_one (ss_ret (se_and (se_callB cr_isi' (by rfl) T.m_isinstance (by decide +kernel) (sa_cons (se_pv (pv 0)) (sa_cons (se_bltn (T := "str") (by rfl) T.m_str (by decide +kernel)) sa_nil))) (se_one (se_cmp (or_eq hr.units) (se_pv (pv 0)) (se_pv (pv 1)) (nomark _)))))) sss_nil)
      (sss_one (ss_ret (se_and (se_callB cr_isi' (by rfl) T.m_isinstance (by decide +kernel) (sa_cons (se_pv (pv 0)) (sa_cons (se_bltn (T := "int") (by rfl) T.m_int (by decide +kernel)) sa_nil))) (se_and (se_cmp (or_eq hr.units) (se_callB cr_isi' (by rfl) T.m_isinstance (by decide +kernel) (sa_cons (se_pv (pv 0)) (sa_cons (se_bltn (T := "bool") (by rfl) T.m_bool (by decide +kernel)) sa_nil))) (se_callB cr_isi' (by rfl) T.m_isinstance (by decide +kernel) (sa_cons (se_pv (pv 1)) (sa_cons (se_bltn (T := "bool") (by rfl) T.m_bool (by decide +kernel)) sa_nil))) (nomark _)) (se_one (se_cmp (or_eq hr.units) (se_pv (pv 0)) (se_pv (pv 1)) (nomark _))))))))))
theorem okS__law_fr (T : Tx K mg) : FnOk P w K mg base CX0 1 T.f__law_fr T.d__law_fr ["_law_above", "_law_below"] (spP ⟨K, gm T⟩ 2 m__law_fr) :=
  okP (K := ⟨K, gm T⟩) T.F__law_fr sc__law_fr (k := 0) fun cdv A outer s H E hr =>
      (sss_cons (ss_par (i := 2) (j := 3) sc__law_fr.nd rfl rfl (by decide) rfl rfl (sa_cons (se_callB cr_abs' (by rfl) T.m_abs (by decide +kernel) (sa_cons (se_pv (pv 0)) sa_nil)) (sa_cons (se_callB cr_abs' (by rfl) T.m_abs (by decide +kernel) (sa_cons (se_pv (pv 1)) sa_nil)) sa_nil)) (by rfl))
      (sss_cons (ss_while PassesOwn.never (st_cmp (or_ne hr.units) (se_pv (pv 3)) se_int (nomark _)) (sss_one (ss_par (i := 2) (j := 3) sc__law_fr.nd rfl rfl (by decide) rfl rfl (sa_cons (se_pv (pv 3)) (sa_cons (se_op or_mod (se_pv (pv 2)) (se_pv (pv 3))) sa_nil)) (by rfl))))
      (sss_cons (ss_if (st_cmp or_lt (se_pv (pv 1)) se_int (nomark _)) (sss_one (ss_set (i := 2) sc__law_fr.nd rfl (by first | exact Or.inl rfl | exact Or.inr rfl) (se_op or_sub se_int (se_pv (pv 2))))) sss_nil)
      (sss_one (ss_ret (se_tup (sa_cons (se_op or_fd (se_pv (pv 0)) (se_pv (pv 2))) (sa_cons (se_op or_fd (se_pv (pv 1)) (se_pv (pv 2))) sa_nil))))))))
theorem okS__law_add (T : Tx K mg) : FnOk P w K mg base CX0 2 T.f__law_add T.d__law_add ["_law_one", "_law_other"] (spP ⟨K, gm T⟩ 2 m__law_add) :=
  okP (K := ⟨K, gm T⟩) T.F__law_add sc__law_add (k := 1) fun cdv A outer s H E hr =>
      (sss_one (ss_ret (se_callP (n := 2) (lo__law_fr) (fun _ => (okS__law_fr T)) (hr.mono (by first | decide | omega)) (by rfl) T.g__law_fr (fun _ => T.F__law_fr.kp) (fun _ => T.b__law_fr) (sa_cons (se_op or_add (se_op or_mul (se_ix xr_ix (se_pv (pv 0)) se_int (fun _ _ => rfl)) (se_ix xr_ix (se_pv (pv 1)) se_int (fun _ _ => rfl))) (se_op or_mul (se_ix xr_ix (se_pv (pv 1)) se_int (fun _ _ => rfl)) (se_ix xr_ix (se_pv (pv 0)) se_int (fun _ _ => rfl)))) (sa_cons (se_op or_mul (se_ix xr_ix (se_pv (pv 0)) se_int (fun _ _ => rfl)) (se_ix xr_ix (se_pv (pv 1)) se_int (fun _ _ => rfl))) sa_nil)))))
theorem okS__law_mul (T : Tx K mg) : FnOk P w K mg base CX0 2 T.f__law_mul T.d__law_mul ["_law_one", "_law_other"] (spP ⟨K, gm T⟩ 2 m__law_mul) :=
  okP (K := ⟨K, gm T⟩) T.F__law_mul sc__law_mul (k := 1) fun cdv A outer s H E hr =>
      (sss_one (ss_ret (se_callP (n := 2) (lo__law_fr) (fun _ => (okS__law_fr T)) (hr.mono (by first | decide | omega)) (by rfl) T.g__law_fr (fun _ => T.F__law_fr.kp) (fun _ => T.b__law_fr) (sa_cons (se_op or_mul (se_ix xr_ix (se_pv (pv 0)) se_int (fun _ _ => rfl)) (se_ix xr_ix (se_pv (pv 1)) se_int (fun _ _ => rfl))) (sa_cons (se_op or_mul (se_ix xr_ix (se_pv (pv 0)) se_int (fun _ _ => rfl)) (se_ix xr_ix (se_pv (pv 1)) se_int (fun _ _ => rfl))) sa_nil)))))
theorem okS__law_dot (T : Tx K mg) : FnOk P w K mg base CX0 3 T.f__law_dot T.d__law_dot ["_law_one", "_law_other"] (spP ⟨K, gm T⟩ 2 m__law_dot) :=
  okP (K := ⟨K, gm T⟩) T.F__law_dot sc__law_dot (k := 2) fun cdv A outer s H E hr =>
      (sss_cons (ss_set (i := 2) sc__law_dot.nd rfl (by first | exact Or.inl rfl | exact Or.inr rfl) (se_tup (sa_cons se_int (sa_cons se_int sa_nil))))
      (sss_cons (ss_for (vs := [3, 4]) PassesOwn.never (si_zip (by rfl) T.m_zip (se_pv (pv 0)) (se_pv (pv 1))) (sg_tup (sgs_cons (sg_name (i := 3) (by decide) sc__law_dot.nd rfl (by first | exact Or.inl rfl | exact Or.inr rfl)) (sgs_cons (sg_name (i := 4) (by decide) sc__law_dot.nd rfl (by first | exact Or.inl rfl | exact Or.inr rfl)) sgs_nil))) (sss_one (ss_set (i := 2) sc__law_dot.nd rfl (by first | exact Or.inl rfl | exact Or.inr rfl) (se_callP (n := 2) (lo__law_add) (fun _ => (okS__law_add T)) (hr.mono (by first | decide | omega)) (by rfl) T.g__law_add (fun _ => T.F__law_add.kp) (fun _ => T.b__law_add) (sa_cons (se_pv (pv 2)) (sa_cons (se_callP (n := 2) (lo__law_mul) (fun _ => (okS__law_mul T)) (hr.mono (by first | decide | omega)) (by rfl) T.g__law_mul (fun _ => T.F__law_mul.kp) (fun _ => T.b__law_mul) (sa_cons (se_pv (pv 3)) (sa_cons (se_pv (pv 4)) sa_nil))) sa_nil))))))
      (sss_one (ss_ret (se_pv (pv 2))))))
theorem okS__law_num (T : Tx K mg) : FnOk P w K mg base CX0 2 T.f__law_num T.d__law_num ["_law_deck", "_law_far"] (spM ⟨K, gm T⟩ 2 m__law_num) :=
  okG (K := ⟨K, gm T⟩) T.F__law_num sc__law_num (k := 1) fun cdv A outer s H E hr =>
      (sss_cons (ss_set (i := 2) sc__law_num.nd rfl (by first | exact Or.inl rfl | exact Or.inr rfl) (se_ix xr_ix (se_lst (sa_cons se_int (sa_cons se_int (sa_cons se_int (sa_cons se_int (sa_cons se_int (sa_cons se_int sa_nil))))))) (se_callM (n := 2) (ln__law_pick) (fun _ => (okS__law_pick T)) (hr.mono (by first | decide | omega)) (by rfl) T.g__law_pick (fun _ => T.F__law_pick.kp) (fun _ => T.b__law_pick) (sa_cons (se_pv (pv 0)) (sa_cons se_int sa_nil))) (fun _ _ => rfl)))
      (sss_one (ss_ret (se_callP (n := 2) (lo__law_fr) (fun _ => (okS__law_fr T)) (hr.mono (by first | decide | omega)) (by rfl) T.g__law_fr (fun _ => T.F__law_fr.kp) (fun _ => T.b__law_fr) (sa_cons (se_op or_sub (se_callM (n := 2) (ln__law_pick) (fun _ => (okS__law_pick T)) (hr.mono (by first | decide | omega)) (by rfl) T.g__law_pick (fun _ => T.F__law_pick.kp) (fun _ => T.b__law_pick) (sa_cons (se_pv (pv 0)) (sa_cons (se_op or_add (se_op or_mul (se_op or_mul se_int (se_pv (pv 1))) (se_pv (pv 2))) se_int) sa_nil))) (se_op or_mul (se_pv (pv 1)) (se_pv (pv 2)))) (sa_cons (se_pv (pv 2)) sa_nil))))))
theorem okS__law_point (T : Tx K mg) : FnOk P w K mg base CX0 3 T.f__law_point T.d__law_point ["_law_deck", "_law_far"] (spM ⟨K, gm T⟩ 2 m__law_point) :=
  okG (K := ⟨K, gm T⟩) T.F__law_point sc__law_point (k := 2) fun cdv A outer s H E hr =>
      (sss_one (ss_ret (se_callTy cr_tuple' (by rfl) T.m_tuple (by decide +kernel) (sa_cons (se_lc (own := [("_law_k", 2)]) sc__law_point.nd (si_range1 (by rfl) T.m_range se_int) (blkOk_by (own := [("_law_k", 2)]) (N := nm__law_point) (sc := defScope s__law_point) (by decide +kernel)) (fun _ _ _ _ _ => (sg_name (i := 2) (by decide) sc__law_point.nd rfl (by first | exact Or.inl rfl | exact Or.inr rfl))) (fun _ _ _ _ _ => sts_nil) (fun _ _ _ _ _ => (se_callM (n := 2) (ln__law_num) (fun _ => (okS__law_num T)) (hr.mono (by first | decide | omega)) (by rfl) T.g__law_num (fun _ => T.F__law_num.kp) (fun _ => T.b__law_num) (sa_cons (se_pv (pv 0)) (sa_cons (se_pv (pv 1)) sa_nil))))) sa_nil))))
theorem okS__law_way (T : Tx K mg) : FnOk P w K mg base CX0 3 T.f__law_way T.d__law_way ["_law_deck", "_law_far"] (spM ⟨K, gm T⟩ 2 m__law_way) :=
  okG (K := ⟨K, gm T⟩) T.F__law_way sc__law_way (k := 2) fun cdv A outer s H E hr =>
      (sss_cons (ss_setLc (i := 2) (own := [("_law_k", 3)]) sc__law_way.nd rfl rfl (sw_true rfl rfl rfl (by decide +kernel)) (si_range1 (by rfl) T.m_range se_int) (blkOk_by (own := [("_law_k", 3)]) (N := nm__law_way) (sc := defScope s__law_way) (by decide +kernel)) (fun _ _ _ _ _ => (sg_name (i := 3) (by decide) sc__law_way.nd rfl (by first | exact Or.inl rfl | exact Or.inr rfl))) (fun _ _ _ _ _ => sts_nil) (fun _ _ _ _ _ => (se_callM (n := 2) (ln__law_num) (fun _ => (okS__law_num T)) (hr.mono (by first | decide | omega)) (by rfl) T.g__law_num (fun _ => T.F__law_num.kp) (fun _ => T.b__law_num) (sa_cons (se_pv (pv 0)) (sa_cons (se_pv (pv 1)) sa_nil)))))
      (sss_cons (ss_for (vs := [3]) PassesOwn.never (si_range1 (by rfl) T.m_range se_int) (sg_name (i := 3) (by decide) sc__law_way.nd rfl (by first | exact Or.inl rfl | exact Or.inr rfl)) (sss_one (ss_if (st_cmp (or_eq hr.units) (se_callM (n := 2) (ln__law_pick) (fun _ => (okS__law_pick T)) (hr.mono (by first | decide | omega)) (by rfl) T.g__law_pick (fun _ => T.F__law_pick.kp) (fun _ => T.b__law_pick) (sa_cons (se_pv (pv 0)) (sa_cons se_int sa_nil))) se_int (nomark _)) (sss_one (ss_sub (se_tup (sa_cons se_int (sa_cons se_int sa_nil))) (se_pv (pv 2)) (se_pv (pv 3)))) sss_nil)))
      (sss_cons (ss_if (st_cmp (or_eq hr.units) (se_pv (pv 2)) (se_op or_mul (se_lst (sa_cons (se_tup (sa_cons se_int (sa_cons se_int sa_nil))) sa_nil)) se_int) (nomark _)) (sss_one (ss_sub (se_ix xr_ix (se_lst (sa_cons (se_tup (sa_cons se_int (sa_cons se_int sa_nil))) (sa_cons (se_tup (sa_cons (se_un ur_neg se_int) (sa_cons se_int sa_nil))) (sa_cons (se_tup (sa_cons se_int (sa_cons se_int sa_nil))) sa_nil)))) (se_callM (n := 2) (ln__law_pick) (fun _ => (okS__law_pick T)) (hr.mono (by first | decide | omega)) (by rfl) T.g__law_pick (fun _ => T.F__law_pick.kp) (fun _ => T.b__law_pick) (sa_cons (se_pv (pv 0)) (sa_cons se_int sa_nil))) (fun _ _ => rfl)) (se_pv (pv 2)) (se_callM (n := 2) (ln__law_pick) (fun _ => (okS__law_pick T)) (hr.mono (by first | decide | omega)) (by rfl) T.g__law_pick (fun _ => T.F__law_pick.kp) (fun _ => T.b__law_pick) (sa_cons (se_pv (pv 0)) (sa_cons se_int sa_nil))))) sss_nil)
      (sss_one (ss_ret (se_callTy cr_tuple' (by rfl) T.m_tuple (by decide +kernel) (sa_cons (se_pv (pv 2)) sa_nil)))))))
theorem okS__law_form (T : Tx K mg) : FnOk P w K mg base CX0 4 T.f__law_form T.d__law_form ["_law_deck"] (spM ⟨K, gm T⟩ 1 m__law_form) :=
  okG (K := ⟨K, gm T⟩) T.F__law_form sc__law_form (k := 3) fun cdv A outer s H E hr =>
      (sss_cons (ss_set (i := 1) sc__law_form.nd rfl (by first | exact Or.inl rfl | exact Or.inr rfl) (se_callM (n := 2) (ln__law_pick) (fun _ => (okS__law_pick T)) (hr.mono (by first | decide | omega)) (by rfl) T.g__law_pick (fun _ => T.F__law_pick.kp) (fun _ => T.b__law_pick) (sa_cons (se_pv (pv 0)) (sa_cons se_int sa_nil))))
      (sss_cons (ss_if (st_cmp or_lt (se_pv (pv 1)) se_int (nomark _)) (sss_cons (ss_set (i := 2) sc__law_form.nd rfl (by first | exact Or.inl rfl | exact Or.inr rfl) (se_callM (n := 2) (ln__law_point) (fun _ => (okS__law_point T)) (hr.mono (by first | decide | omega)) (by rfl) T.g__law_point (fun _ => T.F__law_point.kp) (fun _ => T.b__law_point) (sa_cons (se_pv (pv 0)) (sa_cons se_int sa_nil))))
      (sss_cons (ss_setLc (i := 3) (own := [("_law_k", 4)]) sc__law_form.nd rfl rfl (sw_true rfl rfl rfl (by decide +kernel)) (si_range1 (by rfl) T.m_range se_int) (blkOk_by (own := [("_law_k", 4)]) (N := nm__law_form) (sc := defScope s__law_form) (by decide +kernel)) (fun _ _ _ _ _ => (sg_name (i := 4) (by decide) sc__law_form.nd rfl (by first | exact Or.inl rfl | exact Or.inr rfl))) (fun _ _ _ _ _ => sts_nil) (fun _ _ _ _ _ => (se_callP (n := 2) (lo__law_fr) (fun _ => (okS__law_fr T)) (hr.mono (by first | decide | omega)) (by rfl) T.g__law_fr (fun _ => T.F__law_fr.kp) (fun _ => T.b__law_fr) (sa_cons (se_op or_add se_int (se_callM (n := 2) (ln__law_pick) (fun _ => (okS__law_pick T)) (hr.mono (by first | decide | omega)) (by rfl) T.g__law_pick (fun _ => T.F__law_pick.kp) (fun _ => T.b__law_pick) (sa_cons (se_pv (pv 0)) (sa_cons se_int sa_nil)))) (sa_cons (se_op or_add se_int (se_callM (n := 2) (ln__law_pick) (fun _ => (okS__law_pick T)) (hr.mono (by first | decide | omega)) (by rfl) T.g__law_pick (fun _ => T.F__law_pick.kp) (fun _ => T.b__law_pick) (sa_cons (se_pv (pv 0)) (sa_cons se_int sa_nil)))) sa_nil)))))
      (sss_one (ss_ret (se_tup (sa_cons se_str (sa_cons (se_pv (pv 2)) (sa_cons (se_callTy cr_tuple' (by rfl) T.m_tuple (by decide +kernel) (sa_cons (se_lc (own := [("_law_one", 5), ("_law_more", 6)]) sc__law_form.nd (si_zip (by rfl) T.m_zip (se_pv (pv 2)) (se_pv (pv 3))) (blkOk_by (own := [("_law_one", 5), ("_law_more", 6)]) (N := nm__law_form) (sc := defScope s__law_form) (by decide +kernel)) (fun _ _ _ _ _ => (sg_tup (sgs_cons (sg_name (i := 5) (by decide) sc__law_form.nd rfl (by first | exact Or.inl rfl | exact Or.inr rfl)) (sgs_cons (sg_name (i := 6) (by decide) sc__law_form.nd rfl (by first | exact Or.inl rfl | exact Or.inr rfl)) sgs_nil)))) (fun _ _ _ _ _ => sts_nil) (fun _ _ _ _ _ => (se_callP (n := 2) (lo__law_add) (fun _ => (okS__law_add T)) (hr.mono (by first | decide | omega)) (by rfl) T.g__law_add (fun _ => T.F__law_add.kp) (fun _ => T.b__law_add) (sa_cons (se_pv (pv 5)) (sa_cons (se_pv (pv 6)) sa_nil))))) sa_nil)) sa_nil)))))))) sss_nil)
      (sss_cons (ss_if (st_cmp (or_eq hr.units) (se_pv (pv 1)) se_int (nomark _)) (sss_one (ss_ret (se_tup (sa_cons se_str (sa_cons (se_callM (n := 2) (ln__law_way) (fun _ => (okS__law_way T)) (hr.mono (by first | decide | omega)) (by rfl) T.g__law_way (fun _ => T.F__law_way.kp) (fun _ => T.b__law_way) (sa_cons (se_pv (pv 0)) (sa_cons se_int sa_nil))) (sa_cons (se_callM (n := 2) (ln__law_num) (fun _ => (okS__law_num T)) (hr.mono (by first | decide | omega)) (by rfl) T.g__law_num (fun _ => T.F__law_num.kp) (fun _ => T.b__law_num) (sa_cons (se_pv (pv 0)) (sa_cons se_int sa_nil))) sa_nil)))))) sss_nil)
      (sss_one (ss_ret (se_tup (sa_cons se_str (sa_cons (se_callM (n := 2) (ln__law_point) (fun _ => (okS__law_point T)) (hr.mono (by first | decide | omega)) (by rfl) T.g__law_point (fun _ => T.F__law_point.kp) (fun _ => T.b__law_point) (sa_cons (se_pv (pv 0)) (sa_cons se_int sa_nil))) (sa_cons (se_ix xr_ix (se_lst (sa_cons (se_tup (sa_cons se_int (sa_cons se_int sa_nil))) (sa_cons (se_tup (sa_cons se_int (sa_cons se_int sa_nil))) (sa_cons (se_tup (sa_cons se_int (sa_cons se_int sa_nil))) (sa_cons (se_tup (sa_cons se_int (sa_cons se_int sa_nil))) sa_nil))))) (se_callM (n := 2) (ln__law_pick) (fun _ => (okS__law_pick T)) (hr.mono (by first | decide | omega)) (by rfl) T.g__law_pick (fun _ => T.F__law_pick.kp) (fun _ => T.b__law_pick) (sa_cons (se_pv (pv 0)) (sa_cons se_int sa_nil))) (fun _ _ => rfl)) sa_nil)))))))))
theorem okS__law_turn (T : Tx K mg) : FnOk P w K mg base CX0 4 T.f__law_turn T.d__law_turn ["_law_deck"] (spM ⟨K, gm T⟩ 1 m__law_turn) :=
  okG (K := ⟨K, gm T⟩) T.F__law_turn sc__law_turn (k := 3) fun cdv A outer s H E hr =>
      (sss_cons (ss_set (i := 1) sc__law_turn.nd rfl (by first | exact Or.inl rfl | exact Or.inr rfl) (se_tup (sa_cons (se_tup (sa_cons (se_tup (sa_cons se_int (sa_cons se_int sa_nil))) (sa_cons (se_tup (sa_cons se_int (sa_cons se_int sa_nil))) (sa_cons (se_tup (sa_cons se_int (sa_cons se_int sa_nil))) sa_nil)))) (sa_cons (se_tup (sa_cons (se_tup (sa_cons se_int (sa_cons se_int sa_nil))) (sa_cons (se_tup (sa_cons se_int (sa_cons se_int sa_nil))) (sa_cons (se_tup (sa_cons se_int (sa_cons se_int sa_nil))) sa_nil)))) (sa_cons (se_tup (sa_cons (se_tup (sa_cons se_int (sa_cons se_int sa_nil))) (sa_cons (se_tup (sa_cons se_int (sa_cons se_int sa_nil))) (sa_cons (se_tup (sa_cons se_int (sa_cons se_int sa_nil))) sa_nil)))) sa_nil)))))
      (sss_cons (ss_for (vs := [2]) PassesOwn.never (si_range1 (by rfl) T.m_range (se_callM (n := 2) (ln__law_pick) (fun _ => (okS__law_pick T)) (hr.mono (by first | decide | omega)) (by rfl) T.g__law_pick (fun _ => T.F__law_pick.kp) (fun _ => T.b__law_pick) (sa_cons (se_pv (pv 0)) (sa_cons se_int sa_nil)))) (sg_name (i := 2) (by decide) sc__law_turn.nd rfl (by first | exact Or.inl rfl | exact Or.inr rfl)) (sss_cons (ss_asg (vs := [3, 4]) (se_ix xr_ix (se_lst (sa_cons (se_tup (sa_cons (se_tup (sa_cons se_int (sa_cons se_int sa_nil))) (sa_cons (se_tup (sa_cons se_int (sa_cons se_int sa_nil))) sa_nil))) (sa_cons (se_tup (sa_cons (se_tup (sa_cons se_int (sa_cons se_int sa_nil))) (sa_cons (se_tup (sa_cons se_int (sa_cons se_int sa_nil))) sa_nil))) (sa_cons (se_tup (sa_cons (se_tup (sa_cons (se_un ur_neg se_int) (sa_cons se_int sa_nil))) (sa_cons (se_tup (sa_cons se_int (sa_cons se_int sa_nil))) sa_nil))) (sa_cons (se_tup (sa_cons (se_tup (sa_cons se_int (sa_cons se_int sa_nil))) (sa_cons (se_tup (sa_cons (se_un ur_neg se_int) (sa_cons se_int sa_nil))) sa_nil))) sa_nil))))) (se_callM (n := 2) (ln__law_pick) (fun _ => (okS__law_pick T)) (hr.mono (by first | decide | omega)) (by rfl) T.g__law_pick (fun _ => T.F__law_pick.kp) (fun _ => T.b__law_pick) (sa_cons (se_pv (pv 0)) (sa_cons se_int sa_nil))) (fun _ _ => rfl)) (sg_tup (sgs_cons (sg_name (i := 3) (by decide) sc__law_turn.nd rfl (by first | exact Or.inl rfl | exact Or.inr rfl)) (sgs_cons (sg_name (i := 4) (by decide) sc__law_turn.nd rfl (by first | exact Or.inl rfl | exact Or.inr rfl)) sgs_nil))))
      (sss_cons (ss_set (i := 5) sc__law_turn.nd rfl (by first | exact Or.inl rfl | exact Or.inr rfl) (se_tup (sa_cons (se_op or_sub se_int (se_ix xr_ix (se_pv (pv 4)) se_int (fun _ _ => rfl))) (sa_cons (se_ix xr_ix (se_pv (pv 4)) se_int (fun _ _ => rfl)) sa_nil))))
      (sss_cons (ss_set (i := 6) sc__law_turn.nd rfl (by first | exact Or.inl rfl | exact Or.inr rfl) (se_lst (sa_cons (se_tup (sa_cons (se_tup (sa_cons se_int (sa_cons se_int sa_nil))) (sa_cons (se_tup (sa_cons se_int (sa_cons se_int sa_nil))) (sa_cons (se_tup (sa_cons se_int (sa_cons se_int sa_nil))) sa_nil)))) (sa_cons (se_tup (sa_cons (se_tup (sa_cons se_int (sa_cons se_int sa_nil))) (sa_cons (se_pv (pv 3)) (sa_cons (se_pv (pv 5)) sa_nil)))) (sa_cons (se_tup (sa_cons (se_tup (sa_cons se_int (sa_cons se_int sa_nil))) (sa_cons (se_pv (pv 4)) (sa_cons (se_pv (pv 3)) sa_nil)))) sa_nil)))))
      (sss_cons (ss_set (i := 7) sc__law_turn.nd rfl (by first | exact Or.inl rfl | exact Or.inr rfl) (se_lst (sa_cons (se_tup (sa_cons (se_pv (pv 3)) (sa_cons (se_tup (sa_cons se_int (sa_cons se_int sa_nil))) (sa_cons (se_pv (pv 4)) sa_nil)))) (sa_cons (se_tup (sa_cons (se_tup (sa_cons se_int (sa_cons se_int sa_nil))) (sa_cons (se_tup (sa_cons se_int (sa_cons se_int sa_nil))) (sa_cons (se_tup (sa_cons se_int (sa_cons se_int sa_nil))) sa_nil)))) (sa_cons (se_tup (sa_cons (se_pv (pv 5)) (sa_cons (se_tup (sa_cons se_int (sa_cons se_int sa_nil))) (sa_cons (se_pv (pv 3)) sa_nil)))) sa_nil)))))
      (sss_cons (ss_set (i := 8) sc__law_turn.nd rfl (by first | exact Or.inl rfl | exact Or.inr rfl) (se_lst (sa_cons (se_tup (sa_cons (se_pv (pv 3)) (sa_cons (se_pv (pv 5)) (sa_cons (se_tup (sa_cons se_int (sa_cons se_int sa_nil))) sa_nil)))) (sa_cons (se_tup (sa_cons (se_pv (pv 4)) (sa_cons (se_pv (pv 3)) (sa_cons (se_tup (sa_cons se_int (sa_cons se_int sa_nil))) sa_nil)))) (sa_cons (se_tup (sa_cons (se_tup (sa_cons se_int (sa_cons se_int sa_nil))) (sa_cons (se_tup (sa_cons se_int (sa_cons se_int sa_nil))) (sa_cons (se_tup (sa_cons se_int (sa_cons se_int sa_nil))) sa_nil)))) sa_nil)))))
      (sss_cons (ss_set (i := 9) sc__law_turn.nd rfl (by first | exact Or.inl rfl | exact Or.inr rfl) (se_ix xr_ix (se_lst (sa_cons (se_pv (pv 6)) (sa_cons (se_pv (pv 7)) (sa_cons (se_pv (pv 8)) sa_nil)))) (se_callM (n := 2) (ln__law_pick) (fun _ => (okS__law_pick T)) (hr.mono (by first | decide | omega)) (by rfl) T.g__law_pick (fun _ => T.F__law_pick.kp) (fun _ => T.b__law_pick) (sa_cons (se_pv (pv 0)) (sa_cons se_int sa_nil))) (fun _ _ => rfl)))
      (sss_cons (ss_set (i := 10) sc__law_turn.nd rfl (by first | exact Or.inl rfl | exact Or.inr rfl) (se_lc (own := [("_law_k", 2)]) sc__law_turn.nd (si_range1 (by rfl) T.m_range se_int) (blkOk_by (own := [("_law_k", 2)]) (N := nm__law_turn) (sc := defScope s__law_turn) (by decide +kernel)) (fun _ _ _ _ _ => (sg_name (i := 2) (by decide) sc__law_turn.nd rfl (by first | exact Or.inl rfl | exact Or.inr rfl))) (fun _ _ _ _ _ => sts_nil) (fun _ _ _ _ _ => (se_callTy cr_tuple' (by rfl) T.m_tuple (by decide +kernel) (sa_cons (se_lc (own := [("_law_row", 11)]) sc__law_turn.nd (si_e (se_pv (pv 1))) (by refine blkOk_by (own := [("_law_row", 11)]) (N := nm__law_turn) ?_; with_unfolding_all rfl) (fun _ _ _ _ _ => (sg_name (i := 11) (by decide) sc__law_turn.nd rfl (by first | exact Or.inl rfl | exact Or.inr rfl))) (fun _ _ _ _ _ => sts_nil) (fun _ _ _ _ _ => (se_ix xr_ix (se_pv (pv 11)) (se_pv (pv 2)) (fun _ _ => rfl)))) sa_nil)))))
      (sss_one (ss_set (i := 1) sc__law_turn.nd rfl (by first | exact Or.inl rfl | exact Or.inr rfl) (se_callTy cr_tuple' (by rfl) T.m_tuple (by decide +kernel) (sa_cons (se_lc (own := [("_law_row", 11)]) sc__law_turn.nd (si_e (se_pv (pv 9))) (blkOk_by (own := [("_law_row", 11)]) (N := nm__law_turn) (sc := defScope s__law_turn) (by decide +kernel)) (fun _ _ _ _ _ => (sg_name (i := 11) (by decide) sc__law_turn.nd rfl (by first | exact Or.inl rfl | exact Or.inr rfl))) (fun _ _ _ _ _ => sts_nil) (fun _ _ _ _ _ => (se_callTy cr_tuple' (by rfl) T.m_tuple (by decide +kernel) (sa_cons (se_lc (own := [("_law_side", 12)]) sc__law_turn.nd (si_e (se_pv (pv 10))) (by refine blkOk_by (own := [("_law_side", 12)]) (N := nm__law_turn) ?_; with_unfolding_all rfl) (fun _ _ _ _ _ => (sg_name (i := 12) (by decide) sc__law_turn.nd rfl (by first | exact Or.inl rfl | exact Or.inr rfl))) (fun _ _ _ _ _ => sts_nil) (fun _ _ _ _ _ => (se_callP (n := 2) (lo__law_dot) (fun _ => (okS__law_dot T)) (hr.mono (by first | decide | omega)) (by rfl) T.g__law_dot (fun _ => T.F__law_dot.kp) (fun _ => T.b__law_dot) (sa_cons (se_pv (pv 11)) (sa_cons (se_pv (pv 12)) sa_nil))))) sa_nil)))) sa_nil))))))))))))
      (sss_one (ss_ret (se_pv (pv 1))))))
theorem okS__law_there (T : Tx K mg) : FnOk P w K mg base CX0 4 T.f__law_there T.d__law_there ["_law_turn_here", "_law_slide", "_law_point_here"] (spP ⟨K, gm T⟩ 3 m__law_there) :=
  okP (K := ⟨K, gm T⟩) T.F__law_there sc__law_there (k := 3) fun cdv A outer s H E hr =>
      (sss_one (ss_ret (se_callTy cr_tuple' (by rfl) T.m_tuple (by decide +kernel) (sa_cons (se_lc (own := [("_law_k", 3)]) sc__law_there.nd (si_range1 (by rfl) T.m_range se_int) (blkOk_by (own := [("_law_k", 3)]) (N := nm__law_there) (sc := defScope s__law_there) (by decide +kernel)) (fun _ _ _ _ _ => (sg_name (i := 3) (by decide) sc__law_there.nd rfl (by first | exact Or.inl rfl | exact Or.inr rfl))) (fun _ _ _ _ _ => sts_nil) (fun _ _ _ _ _ => (se_callP (n := 2) (lo__law_add) (fun _ => (okS__law_add T)) (hr.mono (by first | decide | omega)) (by rfl) T.g__law_add (fun _ => T.F__law_add.kp) (fun _ => T.b__law_add) (sa_cons (se_callP (n := 2) (lo__law_dot) (fun _ => (okS__law_dot T)) (hr.mono (by first | decide | omega)) (by rfl) T.g__law_dot (fun _ => T.F__law_dot.kp) (fun _ => T.b__law_dot) (sa_cons (se_ix xr_ix (se_pv (pv 0)) (se_pv (pv 3)) (fun _ _ => rfl)) (sa_cons (se_pv (pv 2)) sa_nil))) (sa_cons (se_ix xr_ix (se_pv (pv 1)) (se_pv (pv 3)) (fun _ _ => rfl)) sa_nil))))) sa_nil))))
end

def sp_law (K : PySem.W.Frag) : Sp := fun vs H Q _ => ∃ (a : Addr) (ns : List Int), vs = [.ref a] ∧ Only H ∧ SqL K H a (ns.map V.int) ∧ ns.length ≤ 63 ∧ ∀ H', Q (.bl true) H'
theorem ok_law {P : Program} {w : World} {K : PySem.W.Frag} {mg : Str → Option Value} {base : Heap} {f : Addr} {fd : FuncData} (F : Fun K "law" "law" s_law f fd) (T : Tx K mg) : FnOk P w K mg base CX0 20 f fd ["_law_script"] (sp_law K) :=
  (okM (K := ⟨K, gm T⟩) F sc_law (k := 19) fun cdv A outer s H E hr =>
      (sss_cons (ss_set (i := 1) sc_law.nd rfl (by first | exact Or.inl rfl | exact Or.inr rfl) (se_callM (n := 1) (ln__law_open) (fun _ => (okS__law_open T)) (hr.mono (by first | decide | omega)) (by rfl) T.g__law_open (fun _ => T.F__law_open.kp) (fun _ => T.b__law_open) (sa_cons (se_pv (pv 0)) sa_nil)))
      (sss_cons (ss_set (i := 2) sc_law.nd rfl (by first | exact Or.inl rfl | exact Or.inr rfl) (se_tup (sa_cons (se_tup (sa_cons (se_tup (sa_cons se_int (sa_cons se_int sa_nil))) (sa_cons (se_tup (sa_cons se_int (sa_cons se_int sa_nil))) (sa_cons (se_tup (sa_cons se_int (sa_cons se_int sa_nil))) sa_nil)))) (sa_cons (se_tup (sa_cons (se_tup (sa_cons se_int (sa_cons se_int sa_nil))) (sa_cons (se_tup (sa_cons se_int (sa_cons se_int sa_nil))) (sa_cons (se_tup (sa_cons se_int (sa_cons se_int sa_nil))) sa_nil)))) (sa_cons (se_tup (sa_cons (se_tup (sa_cons se_int (sa_cons se_int sa_nil))) (sa_cons (se_tup (sa_cons se_int (sa_cons se_int sa_nil))) (sa_cons (se_tup (sa_cons se_int (sa_cons se_int sa_nil))) sa_nil)))) sa_nil)))))
      (sss_cons (ss_set (i := 3) sc_law.nd rfl (by first | exact Or.inl rfl | exact Or.inr rfl) (se_tup (sa_cons (se_tup (sa_cons se_int (sa_cons se_int sa_nil))) (sa_cons (se_tup (sa_cons se_int (sa_cons se_int sa_nil))) (sa_cons (se_tup (sa_cons se_int (sa_cons se_int sa_nil))) sa_nil)))))
      (sss_cons (ss_for (vs := [4]) PassesOwn.never (si_range1 (by rfl) T.m_range se_int) (sg_name (i := 4) (by decide) sc_law.nd rfl (by first | exact Or.inl rfl | exact Or.inr rfl)) (sss_cons (ss_set (i := 5) sc_law.nd rfl (by first | exact Or.inl rfl | exact Or.inr rfl) (se_callM (n := 1) (ln__law_form) (fun _ => (okS__law_form T)) (hr.mono (by first | decide | omega)) (by rfl) T.g__law_form (fun _ => T.F__law_form.kp) (fun _ => T.b__law_form) (sa_cons (se_pv (pv 1)) sa_nil)))
      (sss_cons (ss_set (i := 6) sc_law.nd rfl (by first | exact Or.inl rfl | exact Or.inr rfl) (se_callM (n := 1) (ln__law_turn) (fun _ => (okS__law_turn T)) (hr.mono (by first | decide | omega)) (by rfl) T.g__law_turn (fun _ => T.F__law_turn.kp) (fun _ => T.b__law_turn) (sa_cons (se_pv (pv 1)) sa_nil)))
      (sss_cons (ss_set (i := 7) sc_law.nd rfl (by first | exact Or.inl rfl | exact Or.inr rfl) (se_callM (n := 2) (ln__law_point) (fun _ => (okS__law_point T)) (hr.mono (by first | decide | omega)) (by rfl) T.g__law_point (fun _ => T.F__law_point.kp) (fun _ => T.b__law_point) (sa_cons (se_pv (pv 1)) (sa_cons se_int sa_nil))))
      (sss_cons (ss_set (i := 8) sc_law.nd rfl (by first | exact Or.inl rfl | exact Or.inr rfl) (se_callM (n := 2) (ln__law_point) (fun _ => (okS__law_point T)) (hr.mono (by first | decide | omega)) (by rfl) T.g__law_point (fun _ => T.F__law_point.kp) (fun _ => T.b__law_point) (sa_cons (se_pv (pv 1)) (sa_cons se_int sa_nil))))
      (sss_cons (ss_set (i := 9) sc_law.nd rfl (by first | exact Or.inl rfl | exact Or.inr rfl) (se_callM (n := 2) (ln__law_way) (fun _ => (okS__law_way T)) (hr.mono (by first | decide | omega)) (by rfl) T.g__law_way (fun _ => T.F__law_way.kp) (fun _ => T.b__law_way) (sa_cons (se_pv (pv 1)) (sa_cons se_int sa_nil))))
      (sss_cons (ss_set (i := 10) sc_law.nd rfl (by first | exact Or.inl rfl | exact Or.inr rfl) (se_callP (n := 2) (lo_leaf_stretch) (fun _ => (okS_leaf_stretch T)) (hr.mono (by first | decide | omega)) (by rfl) T.g_leaf_stretch (fun _ => T.F_leaf_stretch.kp) (fun _ => T.b_leaf_stretch) (sa_cons (se_tup (sa_cons se_str (sa_cons (se_pv (pv 5)) (sa_cons (se_pv (pv 2)) (sa_cons (se_pv (pv 3)) sa_nil))))) (sa_cons (se_tup (sa_cons (se_pv (pv 8)) (sa_cons (se_pv (pv 9)) sa_nil))) sa_nil))))
      (sss_cons (ss_set (i := 11) sc_law.nd rfl (by first | exact Or.inl rfl | exact Or.inr rfl) (se_tup (sa_cons (se_callP (n := 3) (lo__law_there) (fun _ => (okS__law_there T)) (hr.mono (by first | decide | omega)) (by rfl) T.g__law_there (fun _ => T.F__law_there.kp) (fun _ => T.b__law_there) (sa_cons (se_pv (pv 6)) (sa_cons (se_pv (pv 7)) (sa_cons (se_pv (pv 8)) sa_nil)))) (sa_cons (se_callP (n := 3) (lo__law_there) (fun _ => (okS__law_there T)) (hr.mono (by first | decide | omega)) (by rfl) T.g__law_there (fun _ => T.F__law_there.kp) (fun _ => T.b__law_there) (sa_cons (se_pv (pv 6)) (sa_cons (se_pv (pv 3)) (sa_cons (se_pv (pv 9)) sa_nil)))) sa_nil))))
      (sss_cons (ss_if (st_not (st_tru (se_callP (n := 2) (lo__law_same 12) (fun _ => (okS__law_same T 12)) (hr.mono (by first | decide | omega)) (by rfl) T.g__law_same (fun _ => T.F__law_same.kp) (fun _ => T.b__law_same) (sa_cons (se_callP (n := 2) (lo_leaf_stretch) (fun _ => (okS_leaf_stretch T)) (hr.mono (by first | decide | omega)) (by rfl) T.g_leaf_stretch (fun _ => T.F_leaf_stretch.kp) (fun _ => T.b_leaf_stretch) (sa_cons (se_tup (sa_cons se_str (sa_cons (se_pv (pv 5)) (sa_cons (se_pv (pv 6)) (sa_cons (se_pv (pv 7)) sa_nil))))) (sa_cons (se_pv (pv 11)) sa_nil))) (sa_cons (se_pv (pv 10)) sa_nil))) (by intro _; rfl))) (sss_one (ss_ret se_bl)) sss_nil)
      (sss_cons (ss_set (i := 12) sc_law.nd rfl (by first | exact Or.inl rfl | exact Or.inr rfl) (se_callM (n := 1) (ln__law_turn) (fun _ => (okS__law_turn T)) (hr.mono (by first | decide | omega)) (by rfl) T.g__law_turn (fun _ => T.F__law_turn.kp) (fun _ => T.b__law_turn) (sa_cons (se_pv (pv 1)) sa_nil)))
      (sss_cons (ss_set (i := 13) sc_law.nd rfl (by first | exact Or.inl rfl | exact Or.inr rfl) (se_callM (n := 2) (ln__law_point) (fun _ => (okS__law_point T)) (hr.mono (by first | decide | omega)) (by rfl) T.g__law_point (fun _ => T.F__law_point.kp) (fun _ => T.b__law_point) (sa_cons (se_pv (pv 1)) (sa_cons se_int sa_nil))))
      (sss_cons (ss_set (i := 14) sc_law.nd rfl (by first | exact Or.inl rfl | exact Or.inr rfl) (se_lst sa_nil))
      (sss_cons (ss_for (vs := [15]) PassesOwn.never (si_e (se_pv (pv 12))) (sg_name (i := 15) (by decide) sc_law.nd rfl (by first | exact Or.inl rfl | exact Or.inr rfl)) (sss_one (ss_expr (se_app (se_pv (pv 14)) (sa_cons (se_callTy cr_tuple' (by rfl) T.m_tuple (by decide +kernel) (sa_cons (se_lc (own := [("_law_j", 18)]) sc_law.nd (si_range1 (by rfl) T.m_range se_int) (blkOk_by (own := [("_law_j", 18)]) (N := nm_law) (sc := defScope s_law) (by decide +kernel)) (fun _ _ _ _ _ => (sg_name (i := 18) (by decide) sc_law.nd rfl (by first | exact Or.inl rfl | exact Or.inr rfl))) (fun _ _ _ _ _ => sts_nil) (fun _ _ _ _ _ => (se_callP (n := 2) (lo__law_dot) (fun _ => (okS__law_dot T)) (hr.mono (by first | decide | omega)) (by rfl) T.g__law_dot (fun _ => T.F__law_dot.kp) (fun _ => T.b__law_dot) (sa_cons (se_pv (pv 15)) (sa_cons (se_callTy cr_tuple' (by rfl) T.m_tuple (by decide +kernel) (sa_cons (se_lc (own := [("_law_one", 19)]) sc_law.nd (si_e (se_pv (pv 6))) (by refine blkOk_by (own := [("_law_one", 19)]) (N := nm_law) ?_; with_unfolding_all rfl) (fun _ _ _ _ _ => (sg_name (i := 19) (by decide) sc_law.nd rfl (by first | exact Or.inl rfl | exact Or.inr rfl))) (fun _ _ _ _ _ => sts_nil) (fun _ _ _ _ _ => (se_ix xr_ix (se_pv (pv 19)) (se_pv (pv 18)) (fun _ _ => rfl)))) sa_nil)) sa_nil))))) sa_nil)) sa_nil)))))
      (sss_cons (ss_set (i := 16) sc_law.nd rfl (by first | exact Or.inl rfl | exact Or.inr rfl) (se_tup (sa_cons (se_callP (n := 3) (lo__law_there) (fun _ => (okS__law_there T)) (hr.mono (by first | decide | omega)) (by rfl) T.g__law_there (fun _ => T.F__law_there.kp) (fun _ => T.b__law_there) (sa_cons (se_pv (pv 12)) (sa_cons (se_pv (pv 13)) (sa_cons (se_ix xr_ix (se_pv (pv 11)) se_int (fun _ _ => rfl)) sa_nil)))) (sa_cons (se_callP (n := 3) (lo__law_there) (fun _ => (okS__law_there T)) (hr.mono (by first | decide | omega)) (by rfl) T.g__law_there (fun _ => T.F__law_there.kp) (fun _ => T.b__law_there) (sa_cons (se_pv (pv 12)) (sa_cons (se_pv (pv 3)) (sa_cons (se_ix xr_ix (se_pv (pv 11)) se_int (fun _ _ => rfl)) sa_nil)))) sa_nil))))
      (sss_cons (ss_set (i := 17) sc_law.nd rfl (by first | exact Or.inl rfl | exact Or.inr rfl) (se_tup (sa_cons se_str (sa_cons (se_pv (pv 5)) (sa_cons (se_callTy cr_tuple' (by rfl) T.m_tuple (by decide +kernel) (sa_cons (se_pv (pv 14)) sa_nil)) (sa_cons (se_callP (n := 3) (lo__law_there) (fun _ => (okS__law_there T)) (hr.mono (by first | decide | omega)) (by rfl) T.g__law_there (fun _ => T.F__law_there.kp) (fun _ => T.b__law_there) (sa_cons (se_pv (pv 12)) (sa_cons (se_pv (pv 13)) (sa_cons (se_pv (pv 7)) sa_nil)))) sa_nil))))))
      (sss_one (ss_if (st_not (st_tru (se_callP (n := 2) (lo__law_same 12) (fun _ => (okS__law_same T 12)) (hr.mono (by first | decide | omega)) (by rfl) T.g__law_same (fun _ => T.F__law_same.kp) (fun _ => T.b__law_same) (sa_cons (se_callP (n := 2) (lo_leaf_stretch) (fun _ => (okS_leaf_stretch T)) (hr.mono (by first | decide | omega)) (by rfl) T.g_leaf_stretch (fun _ => T.F_leaf_stretch.kp) (fun _ => T.b_leaf_stretch) (sa_cons (se_pv (pv 17)) (sa_cons (se_pv (pv 16)) sa_nil))) (sa_cons (se_pv (pv 10)) sa_nil))) (by intro _; rfl))) (sss_one (ss_ret se_bl)) sss_nil)))))))))))))))))
      (sss_one (ss_ret se_bl))))))).imp fun vs H Q E h => law_sp (K := ⟨K, gm T⟩) law_true h

theorem all_mk {l : PySem.W.OpenLaw} {w : World} {K : PySem.W.Frag} {h : Heap} {mg : Str → Option Value} {fa : Addr} (X : K.In h) (G : h.Ns mainGlobals mg) (hfa : mg "law" = some (.ref fa))
    {tkK0_0 : Tok}
    {tkK0_1 : Tok}
    {qK0 : Addr} {odK0 : Option Addr} {nK0 : Nat} {slK0 : Array (Option Value)} (kK0 : K.lookup qK0 = some ⟨.type "tuple", odK0, .seq #[.int (0) tkK0_0, .int (1) tkK0_1] nK0, slK0⟩)
    (gK0 : PySem.W.nsIn K mainGlobals "NOUGHT" = some (some (.ref qK0)))
    {qK1 : Addr} {odK1 : Option Addr} {nK1 : Nat} {slK1 : Array (Option Value)} (kK1 : K.lookup qK1 = some ⟨.type "tuple", odK1, .seq #[.none, .none, .none, .none] nK1, slK1⟩)
    (gK1 : PySem.W.nsIn K mainGlobals "ALWAYS" = some (some (.ref qK1)))
    {C0 : Addr} (aC0 : PySem.W.nsIn K mainGlobals "Whole" = some (some (.ref C0))) (pg0 : PySem.W.plainGet K C0 Str.empty = true) (hd0 : PySem.W.hasDictIn K C0 = true) (po0 : PySem.W.plainOver K C0 = true) (sa0 : PySem.W.findIn K (.ref C0) "__setattr__" = some (some (.builtin "object.__setattr__"))) (mk0 : PySem.W.makesIn K C0 = true) (kc0 : PySem.W.keepIn K (.ref C0) = true)
    (oi0 : PySem.W.findIn K (.ref C0) "__init__" = some (some (.builtin "object.__init__")))
    {C1 : Addr} (aC1 : PySem.W.nsIn K mainGlobals "Rooted" = some (some (.ref C1))) (pg1 : PySem.W.plainGet K C1 Str.empty = true) (hd1 : PySem.W.hasDictIn K C1 = true) (po1 : PySem.W.plainOver K C1 = true) (sa1 : PySem.W.findIn K (.ref C1) "__setattr__" = some (some (.builtin "object.__setattr__"))) (mk1 : PySem.W.makesIn K C1 = true) (kc1 : PySem.W.keepIn K (.ref C1) = true)
    (n1_below : PySem.W.findIn K (.ref C1) "below" = some none)
    (n1_under : PySem.W.findIn K (.ref C1) "under" = some none)
    {f0 : Addr} {od0 an0 : Option Addr} {sl0 : Array (Option Value)} {oc0 kV0 dc0 pm0 cd0 ct0 : Value}
    (a0 : PySem.W.nsIn K mainGlobals "frac" = some (some (.ref f0))) (l0 : K.lookup f0 = some ⟨oc0, od0, .func (PySem.W.fnOf "frac" "frac" (defArgs s_frac) (defBody s_frac) (defScope s_frac) .none kV0 dc0 pm0 an0 cd0 ct0), sl0⟩) (c0 : PySem.W.codeIn K cd0 "frac" = true) (k0 : PySem.W.keepIn K (.ref f0) = true)
    {f1 : Addr} {od1 an1 : Option Addr} {sl1 : Array (Option Value)} {oc1 kV1 dc1 pm1 cd1 ct1 : Value}
    (a1 : PySem.W.nsIn K mainGlobals "plus" = some (some (.ref f1))) (l1 : K.lookup f1 = some ⟨oc1, od1, .func (PySem.W.fnOf "plus" "plus" (defArgs s_plus) (defBody s_plus) (defScope s_plus) .none kV1 dc1 pm1 an1 cd1 ct1), sl1⟩) (c1 : PySem.W.codeIn K cd1 "plus" = true) (k1 : PySem.W.keepIn K (.ref f1) = true)
    {f2 : Addr} {od2 an2 : Option Addr} {sl2 : Array (Option Value)} {oc2 kV2 dc2 pm2 cd2 ct2 : Value}
    (a2 : PySem.W.nsIn K mainGlobals "minus" = some (some (.ref f2))) (l2 : K.lookup f2 = some ⟨oc2, od2, .func (PySem.W.fnOf "minus" "minus" (defArgs s_minus) (defBody s_minus) (defScope s_minus) .none kV2 dc2 pm2 an2 cd2 ct2), sl2⟩) (c2 : PySem.W.codeIn K cd2 "minus" = true) (k2 : PySem.W.keepIn K (.ref f2) = true)
    {f3 : Addr} {od3 an3 : Option Addr} {sl3 : Array (Option Value)} {oc3 kV3 dc3 pm3 cd3 ct3 : Value}
    (a3 : PySem.W.nsIn K mainGlobals "times" = some (some (.ref f3))) (l3 : K.lookup f3 = some ⟨oc3, od3, .func (PySem.W.fnOf "times" "times" (defArgs s_times) (defBody s_times) (defScope s_times) .none kV3 dc3 pm3 an3 cd3 ct3), sl3⟩) (c3 : PySem.W.codeIn K cd3 "times" = true) (k3 : PySem.W.keepIn K (.ref f3) = true)
    {f4 : Addr} {od4 an4 : Option Addr} {sl4 : Array (Option Value)} {oc4 kV4 dc4 pm4 cd4 ct4 : Value}
    (a4 : PySem.W.nsIn K mainGlobals "over" = some (some (.ref f4))) (l4 : K.lookup f4 = some ⟨oc4, od4, .func (PySem.W.fnOf "over" "over" (defArgs s_over) (defBody s_over) (defScope s_over) .none kV4 dc4 pm4 an4 cd4 ct4), sl4⟩) (c4 : PySem.W.codeIn K cd4 "over" = true) (k4 : PySem.W.keepIn K (.ref f4) = true)
    {f5 : Addr} {od5 an5 : Option Addr} {sl5 : Array (Option Value)} {oc5 kV5 dc5 pm5 cd5 ct5 : Value}
    (a5 : PySem.W.nsIn K mainGlobals "sign" = some (some (.ref f5))) (l5 : K.lookup f5 = some ⟨oc5, od5, .func (PySem.W.fnOf "sign" "sign" (defArgs s_sign) (defBody s_sign) (defScope s_sign) .none kV5 dc5 pm5 an5 cd5 ct5), sl5⟩) (c5 : PySem.W.codeIn K cd5 "sign" = true) (k5 : PySem.W.keepIn K (.ref f5) = true)
    {f6 : Addr} {od6 an6 : Option Addr} {sl6 : Array (Option Value)} {oc6 kV6 dc6 pm6 cd6 ct6 : Value}
    (a6 : PySem.W.nsIn K mainGlobals "dot" = some (some (.ref f6))) (l6 : K.lookup f6 = some ⟨oc6, od6, .func (PySem.W.fnOf "dot" "dot" (defArgs s_dot) (defBody s_dot) (defScope s_dot) .none kV6 dc6 pm6 an6 cd6 ct6), sl6⟩) (c6 : PySem.W.codeIn K cd6 "dot" = true) (k6 : PySem.W.keepIn K (.ref f6) = true)
    {f7 : Addr} {od7 an7 : Option Addr} {sl7 : Array (Option Value)} {oc7 kV7 dc7 pm7 cd7 ct7 : Value}
    (a7 : PySem.W.nsIn K mainGlobals "together" = some (some (.ref f7))) (l7 : K.lookup f7 = some ⟨oc7, od7, .func (PySem.W.fnOf "together" "together" (defArgs s_together) (defBody s_together) (defScope s_together) .none kV7 dc7 pm7 an7 cd7 ct7), sl7⟩) (c7 : PySem.W.codeIn K cd7 "together" = true) (k7 : PySem.W.keepIn K (.ref f7) = true)
    {f8 : Addr} {od8 an8 : Option Addr} {sl8 : Array (Option Value)} {oc8 kV8 dc8 pm8 cd8 ct8 : Value}
    (a8 : PySem.W.nsIn K mainGlobals "way_between" = some (some (.ref f8))) (l8 : K.lookup f8 = some ⟨oc8, od8, .func (PySem.W.fnOf "way_between" "way_between" (defArgs s_way_between) (defBody s_way_between) (defScope s_way_between) .none kV8 dc8 pm8 an8 cd8 ct8), sl8⟩) (c8 : PySem.W.codeIn K cd8 "way_between" = true) (k8 : PySem.W.keepIn K (.ref f8) = true)
    {f9 : Addr} {od9 an9 : Option Addr} {sl9 : Array (Option Value)} {oc9 kV9 dc9 pm9 cd9 ct9 : Value}
    (a9 : PySem.W.nsIn K mainGlobals "turned" = some (some (.ref f9))) (l9 : K.lookup f9 = some ⟨oc9, od9, .func (PySem.W.fnOf "turned" "turned" (defArgs s_turned) (defBody s_turned) (defScope s_turned) .none kV9 dc9 pm9 an9 cd9 ct9), sl9⟩) (c9 : PySem.W.codeIn K cd9 "turned" = true) (k9 : PySem.W.keepIn K (.ref f9) = true)
    {f10 : Addr} {od10 an10 : Option Addr} {sl10 : Array (Option Value)} {oc10 kV10 dc10 pm10 cd10 ct10 : Value}
    (a10 : PySem.W.nsIn K mainGlobals "columns_of" = some (some (.ref f10))) (l10 : K.lookup f10 = some ⟨oc10, od10, .func (PySem.W.fnOf "columns_of" "columns_of" (defArgs s_columns_of) (defBody s_columns_of) (defScope s_columns_of) .none kV10 dc10 pm10 an10 cd10 ct10), sl10⟩) (c10 : PySem.W.codeIn K cd10 "columns_of" = true) (k10 : PySem.W.keepIn K (.ref f10) = true)
    {f11 : Addr} {od11 an11 : Option Addr} {sl11 : Array (Option Value)} {oc11 kV11 dc11 pm11 cd11 ct11 : Value}
    (a11 : PySem.W.findIn K (.ref C0) "nought" = some (some (.ref f11))) (i11 : PySem.W.isFn K (.ref f11) = true) (l11 : K.lookup f11 = some ⟨oc11, od11, .func (PySem.W.fnOf "nought" "Whole.nought" (defArgs s_Whole_nought) (defBody s_Whole_nought) (defScope s_Whole_nought) .none kV11 dc11 pm11 an11 cd11 ct11), sl11⟩) (c11 : PySem.W.codeIn K cd11 "Whole.nought" = true) (k11 : PySem.W.keepIn K (.ref f11) = true)
    {f12 : Addr} {od12 an12 : Option Addr} {sl12 : Array (Option Value)} {oc12 kV12 dc12 pm12 cd12 ct12 : Value}
    (a12 : PySem.W.findIn K (.ref C0) "plus" = some (some (.ref f12))) (i12 : PySem.W.isFn K (.ref f12) = true) (l12 : K.lookup f12 = some ⟨oc12, od12, .func (PySem.W.fnOf "plus" "Whole.plus" (defArgs s_Whole_plus) (defBody s_Whole_plus) (defScope s_Whole_plus) .none kV12 dc12 pm12 an12 cd12 ct12), sl12⟩) (c12 : PySem.W.codeIn K cd12 "Whole.plus" = true) (k12 : PySem.W.keepIn K (.ref f12) = true)
    {f13 : Addr} {od13 an13 : Option Addr} {sl13 : Array (Option Value)} {oc13 kV13 dc13 pm13 cd13 ct13 : Value}
    (a13 : PySem.W.findIn K (.ref C0) "times" = some (some (.ref f13))) (i13 : PySem.W.isFn K (.ref f13) = true) (l13 : K.lookup f13 = some ⟨oc13, od13, .func (PySem.W.fnOf "times" "Whole.times" (defArgs s_Whole_times) (defBody s_Whole_times) (defScope s_Whole_times) .none kV13 dc13 pm13 an13 cd13 ct13), sl13⟩) (c13 : PySem.W.codeIn K cd13 "Whole.times" = true) (k13 : PySem.W.keepIn K (.ref f13) = true)
    {f14 : Addr} {od14 an14 : Option Addr} {sl14 : Array (Option Value)} {oc14 kV14 dc14 pm14 cd14 ct14 : Value}
    (a14 : PySem.W.findIn K (.ref C0) "scaled" = some (some (.ref f14))) (i14 : PySem.W.isFn K (.ref f14) = true) (l14 : K.lookup f14 = some ⟨oc14, od14, .func (PySem.W.fnOf "scaled" "Whole.scaled" (defArgs s_Whole_scaled) (defBody s_Whole_scaled) (defScope s_Whole_scaled) .none kV14 dc14 pm14 an14 cd14 ct14), sl14⟩) (c14 : PySem.W.codeIn K cd14 "Whole.scaled" = true) (k14 : PySem.W.keepIn K (.ref f14) = true)
    {f15 : Addr} {od15 an15 : Option Addr} {sl15 : Array (Option Value)} {oc15 kV15 dc15 pm15 cd15 ct15 : Value}
    (a15 : PySem.W.findIn K (.ref C0) "sign" = some (some (.ref f15))) (i15 : PySem.W.isFn K (.ref f15) = true) (l15 : K.lookup f15 = some ⟨oc15, od15, .func (PySem.W.fnOf "sign" "Whole.sign" (defArgs s_Whole_sign) (defBody s_Whole_sign) (defScope s_Whole_sign) .none kV15 dc15 pm15 an15 cd15 ct15), sl15⟩) (c15 : PySem.W.codeIn K cd15 "Whole.sign" = true) (k15 : PySem.W.keepIn K (.ref f15) = true)
    {f16 : Addr} {od16 an16 : Option Addr} {sl16 : Array (Option Value)} {oc16 kV16 dc16 pm16 cd16 ct16 : Value}
    (a16 : PySem.W.findIn K (.ref C1) "__init__" = some (some (.ref f16))) (i16 : PySem.W.isFn K (.ref f16) = true) (l16 : K.lookup f16 = some ⟨oc16, od16, .func (PySem.W.fnOf "__init__" "Rooted.__init__" (defArgs s_Rooted___init__) (defBody s_Rooted___init__) (defScope s_Rooted___init__) .none kV16 dc16 pm16 an16 cd16 ct16), sl16⟩) (c16 : PySem.W.codeIn K cd16 "Rooted.__init__" = true) (k16 : PySem.W.keepIn K (.ref f16) = true)
    {f17 : Addr} {od17 an17 : Option Addr} {sl17 : Array (Option Value)} {oc17 kV17 dc17 pm17 cd17 ct17 : Value}
    (a17 : PySem.W.findIn K (.ref C1) "nought" = some (some (.ref f17))) (i17 : PySem.W.isFn K (.ref f17) = true) (l17 : K.lookup f17 = some ⟨oc17, od17, .func (PySem.W.fnOf "nought" "Rooted.nought" (defArgs s_Rooted_nought) (defBody s_Rooted_nought) (defScope s_Rooted_nought) .none kV17 dc17 pm17 an17 cd17 ct17), sl17⟩) (c17 : PySem.W.codeIn K cd17 "Rooted.nought" = true) (k17 : PySem.W.keepIn K (.ref f17) = true)
    {f18 : Addr} {od18 an18 : Option Addr} {sl18 : Array (Option Value)} {oc18 kV18 dc18 pm18 cd18 ct18 : Value}
    (a18 : PySem.W.findIn K (.ref C1) "lifted" = some (some (.ref f18))) (i18 : PySem.W.isFn K (.ref f18) = true) (l18 : K.lookup f18 = some ⟨oc18, od18, .func (PySem.W.fnOf "lifted" "Rooted.lifted" (defArgs s_Rooted_lifted) (defBody s_Rooted_lifted) (defScope s_Rooted_lifted) .none kV18 dc18 pm18 an18 cd18 ct18), sl18⟩) (c18 : PySem.W.codeIn K cd18 "Rooted.lifted" = true) (k18 : PySem.W.keepIn K (.ref f18) = true)
    {f19 : Addr} {od19 an19 : Option Addr} {sl19 : Array (Option Value)} {oc19 kV19 dc19 pm19 cd19 ct19 : Value}
    (a19 : PySem.W.findIn K (.ref C1) "plus" = some (some (.ref f19))) (i19 : PySem.W.isFn K (.ref f19) = true) (l19 : K.lookup f19 = some ⟨oc19, od19, .func (PySem.W.fnOf "plus" "Rooted.plus" (defArgs s_Rooted_plus) (defBody s_Rooted_plus) (defScope s_Rooted_plus) .none kV19 dc19 pm19 an19 cd19 ct19), sl19⟩) (c19 : PySem.W.codeIn K cd19 "Rooted.plus" = true) (k19 : PySem.W.keepIn K (.ref f19) = true)
    {f20 : Addr} {od20 an20 : Option Addr} {sl20 : Array (Option Value)} {oc20 kV20 dc20 pm20 cd20 ct20 : Value}
    (a20 : PySem.W.findIn K (.ref C1) "times" = some (some (.ref f20))) (i20 : PySem.W.isFn K (.ref f20) = true) (l20 : K.lookup f20 = some ⟨oc20, od20, .func (PySem.W.fnOf "times" "Rooted.times" (defArgs s_Rooted_times) (defBody s_Rooted_times) (defScope s_Rooted_times) .none kV20 dc20 pm20 an20 cd20 ct20), sl20⟩) (c20 : PySem.W.codeIn K cd20 "Rooted.times" = true) (k20 : PySem.W.keepIn K (.ref f20) = true)
    {f21 : Addr} {od21 an21 : Option Addr} {sl21 : Array (Option Value)} {oc21 kV21 dc21 pm21 cd21 ct21 : Value}
    (a21 : PySem.W.findIn K (.ref C1) "scaled" = some (some (.ref f21))) (i21 : PySem.W.isFn K (.ref f21) = true) (l21 : K.lookup f21 = some ⟨oc21, od21, .func (PySem.W.fnOf "scaled" "Rooted.scaled" (defArgs s_Rooted_scaled) (defBody s_Rooted_scaled) (defScope s_Rooted_scaled) .none kV21 dc21 pm21 an21 cd21 ct21), sl21⟩) (c21 : PySem.W.codeIn K cd21 "Rooted.scaled" = true) (k21 : PySem.W.keepIn K (.ref f21) = true)
    {f22 : Addr} {od22 an22 : Option Addr} {sl22 : Array (Option Value)} {oc22 kV22 dc22 pm22 cd22 ct22 : Value}
    (a22 : PySem.W.findIn K (.ref C1) "sign" = some (some (.ref f22))) (i22 : PySem.W.isFn K (.ref f22) = true) (l22 : K.lookup f22 = some ⟨oc22, od22, .func (PySem.W.fnOf "sign" "Rooted.sign" (defArgs s_Rooted_sign) (defBody s_Rooted_sign) (defScope s_Rooted_sign) .none kV22 dc22 pm22 an22 cd22 ct22), sl22⟩) (c22 : PySem.W.codeIn K cd22 "Rooted.sign" = true) (k22 : PySem.W.keepIn K (.ref f22) = true)
    {f23 : Addr} {od23 an23 : Option Addr} {sl23 : Array (Option Value)} {oc23 kV23 dc23 pm23 cd23 ct23 : Value}
    (a23 : PySem.W.nsIn K mainGlobals "compare" = some (some (.ref f23))) (l23 : K.lookup f23 = some ⟨oc23, od23, .func (PySem.W.fnOf "compare" "compare" (defArgs s_compare) (defBody s_compare) (defScope s_compare) .none kV23 dc23 pm23 an23 cd23 ct23), sl23⟩) (c23 : PySem.W.codeIn K cd23 "compare" = true) (k23 : PySem.W.keepIn K (.ref f23) = true)
    {f24 : Addr} {od24 an24 : Option Addr} {sl24 : Array (Option Value)} {oc24 kV24 dc24 pm24 cd24 ct24 : Value}
    (a24 : PySem.W.nsIn K mainGlobals "slabs_of" = some (some (.ref f24))) (l24 : K.lookup f24 = some ⟨oc24, od24, .func (PySem.W.fnOf "slabs_of" "slabs_of" (defArgs s_slabs_of) (defBody s_slabs_of) (defScope s_slabs_of) .none kV24 dc24 pm24 an24 cd24 ct24), sl24⟩) (c24 : PySem.W.codeIn K cd24 "slabs_of" = true) (k24 : PySem.W.keepIn K (.ref f24) = true)
    {f25 : Addr} {od25 an25 : Option Addr} {sl25 : Array (Option Value)} {oc25 kV25 dc25 pm25 cd25 ct25 : Value}
    (a25 : PySem.W.nsIn K mainGlobals "ball_of" = some (some (.ref f25))) (l25 : K.lookup f25 = some ⟨oc25, od25, .func (PySem.W.fnOf "ball_of" "ball_of" (defArgs s_ball_of) (defBody s_ball_of) (defScope s_ball_of) .none kV25 dc25 pm25 an25 cd25 ct25), sl25⟩) (c25 : PySem.W.codeIn K cd25 "ball_of" = true) (k25 : PySem.W.keepIn K (.ref f25) = true)
    {f26 : Addr} {od26 an26 : Option Addr} {sl26 : Array (Option Value)} {oc26 kV26 dc26 pm26 cd26 ct26 : Value}
    (a26 : PySem.W.nsIn K mainGlobals "directed" = some (some (.ref f26))) (l26 : K.lookup f26 = some ⟨oc26, od26, .func (PySem.W.fnOf "directed" "directed" (defArgs s_directed) (defBody s_directed) (defScope s_directed) .none kV26 dc26 pm26 an26 cd26 ct26), sl26⟩) (c26 : PySem.W.codeIn K cd26 "directed" = true) (k26 : PySem.W.keepIn K (.ref f26) = true)
    {f27 : Addr} {od27 an27 : Option Addr} {sl27 : Array (Option Value)} {oc27 kV27 dc27 pm27 cd27 ct27 : Value}
    (a27 : PySem.W.nsIn K mainGlobals "met" = some (some (.ref f27))) (l27 : K.lookup f27 = some ⟨oc27, od27, .func (PySem.W.fnOf "met" "met" (defArgs s_met) (defBody s_met) (defScope s_met) .none kV27 dc27 pm27 an27 cd27 ct27), sl27⟩) (c27 : PySem.W.codeIn K cd27 "met" = true) (k27 : PySem.W.keepIn K (.ref f27) = true)
    {f28 : Addr} {od28 an28 : Option Addr} {sl28 : Array (Option Value)} {oc28 kV28 dc28 pm28 cd28 ct28 : Value}
    (a28 : PySem.W.nsIn K mainGlobals "flat_moment" = some (some (.ref f28))) (l28 : K.lookup f28 = some ⟨oc28, od28, .func (PySem.W.fnOf "flat_moment" "flat_moment" (defArgs s_flat_moment) (defBody s_flat_moment) (defScope s_flat_moment) .none kV28 dc28 pm28 an28 cd28 ct28), sl28⟩) (c28 : PySem.W.codeIn K cd28 "flat_moment" = true) (k28 : PySem.W.keepIn K (.ref f28) = true)
    {f29 : Addr} {od29 an29 : Option Addr} {sl29 : Array (Option Value)} {oc29 kV29 dc29 pm29 cd29 ct29 : Value}
    (a29 : PySem.W.nsIn K mainGlobals "slab_stretch" = some (some (.ref f29))) (l29 : K.lookup f29 = some ⟨oc29, od29, .func (PySem.W.fnOf "slab_stretch" "slab_stretch" (defArgs s_slab_stretch) (defBody s_slab_stretch) (defScope s_slab_stretch) .none kV29 dc29 pm29 an29 cd29 ct29), sl29⟩) (c29 : PySem.W.codeIn K cd29 "slab_stretch" = true) (k29 : PySem.W.keepIn K (.ref f29) = true)
    {f30 : Addr} {od30 an30 : Option Addr} {sl30 : Array (Option Value)} {oc30 kV30 dc30 pm30 cd30 ct30 : Value}
    (a30 : PySem.W.nsIn K mainGlobals "ball_stretch" = some (some (.ref f30))) (l30 : K.lookup f30 = some ⟨oc30, od30, .func (PySem.W.fnOf "ball_stretch" "ball_stretch" (defArgs s_ball_stretch) (defBody s_ball_stretch) (defScope s_ball_stretch) .none kV30 dc30 pm30 an30 cd30 ct30), sl30⟩) (c30 : PySem.W.codeIn K cd30 "ball_stretch" = true) (k30 : PySem.W.keepIn K (.ref f30) = true)
    {f31 : Addr} {od31 an31 : Option Addr} {sl31 : Array (Option Value)} {oc31 kV31 dc31 pm31 cd31 ct31 : Value}
    (a31 : PySem.W.nsIn K mainGlobals "leaf_stretch" = some (some (.ref f31))) (l31 : K.lookup f31 = some ⟨oc31, od31, .func (PySem.W.fnOf "leaf_stretch" "leaf_stretch" (defArgs s_leaf_stretch) (defBody s_leaf_stretch) (defScope s_leaf_stretch) .none kV31 dc31 pm31 an31 cd31 ct31), sl31⟩) (c31 : PySem.W.codeIn K cd31 "leaf_stretch" = true) (k31 : PySem.W.keepIn K (.ref f31) = true)
    {f32 : Addr} {od32 an32 : Option Addr} {sl32 : Array (Option Value)} {oc32 kV32 dc32 pm32 cd32 ct32 : Value}
    (a32 : PySem.W.nsIn K mainGlobals "_law_open" = some (some (.ref f32))) (l32 : K.lookup f32 = some ⟨oc32, od32, .func (PySem.W.fnOf "_law_open" "_law_open" (defArgs s__law_open) (defBody s__law_open) (defScope s__law_open) .none kV32 dc32 pm32 an32 cd32 ct32), sl32⟩) (c32 : PySem.W.codeIn K cd32 "_law_open" = true) (k32 : PySem.W.keepIn K (.ref f32) = true)
    {f33 : Addr} {od33 an33 : Option Addr} {sl33 : Array (Option Value)} {oc33 kV33 dc33 pm33 cd33 ct33 : Value}
    (a33 : PySem.W.nsIn K mainGlobals "_law_pick" = some (some (.ref f33))) (l33 : K.lookup f33 = some ⟨oc33, od33, .func (PySem.W.fnOf "_law_pick" "_law_pick" (defArgs s__law_pick) (defBody s__law_pick) (defScope s__law_pick) .none kV33 dc33 pm33 an33 cd33 ct33), sl33⟩) (c33 : PySem.W.codeIn K cd33 "_law_pick" = true) (k33 : PySem.W.keepIn K (.ref f33) = true)
    {f34 : Addr} {od34 an34 : Option Addr} {sl34 : Array (Option Value)} {oc34 kV34 dc34 pm34 cd34 ct34 : Value}
    (a34 : PySem.W.nsIn K mainGlobals "_law_same" = some (some (.ref f34))) (l34 : K.lookup f34 = some ⟨oc34, od34, .func (PySem.W.fnOf "_law_same" "_law_same" (defArgs s__law_same) (defBody s__law_same) (defScope s__law_same) .none kV34 dc34 pm34 an34 cd34 ct34), sl34⟩) (c34 : PySem.W.codeIn K cd34 "_law_same" = true) (k34 : PySem.W.keepIn K (.ref f34) = true)
    {f35 : Addr} {od35 an35 : Option Addr} {sl35 : Array (Option Value)} {oc35 kV35 dc35 pm35 cd35 ct35 : Value}
    (a35 : PySem.W.nsIn K mainGlobals "_law_fr" = some (some (.ref f35))) (l35 : K.lookup f35 = some ⟨oc35, od35, .func (PySem.W.fnOf "_law_fr" "_law_fr" (defArgs s__law_fr) (defBody s__law_fr) (defScope s__law_fr) .none kV35 dc35 pm35 an35 cd35 ct35), sl35⟩) (c35 : PySem.W.codeIn K cd35 "_law_fr" = true) (k35 : PySem.W.keepIn K (.ref f35) = true)
    {f36 : Addr} {od36 an36 : Option Addr} {sl36 : Array (Option Value)} {oc36 kV36 dc36 pm36 cd36 ct36 : Value}
    (a36 : PySem.W.nsIn K mainGlobals "_law_add" = some (some (.ref f36))) (l36 : K.lookup f36 = some ⟨oc36, od36, .func (PySem.W.fnOf "_law_add" "_law_add" (defArgs s__law_add) (defBody s__law_add) (defScope s__law_add) .none kV36 dc36 pm36 an36 cd36 ct36), sl36⟩) (c36 : PySem.W.codeIn K cd36 "_law_add" = true) (k36 : PySem.W.keepIn K (.ref f36) = true)
    {f37 : Addr} {od37 an37 : Option Addr} {sl37 : Array (Option Value)} {oc37 kV37 dc37 pm37 cd37 ct37 : Value}
    (a37 : PySem.W.nsIn K mainGlobals "_law_mul" = some (some (.ref f37))) (l37 : K.lookup f37 = some ⟨oc37, od37, .func (PySem.W.fnOf "_law_mul" "_law_mul" (defArgs s__law_mul) (defBody s__law_mul) (defScope s__law_mul) .none kV37 dc37 pm37 an37 cd37 ct37), sl37⟩) (c37 : PySem.W.codeIn K cd37 "_law_mul" = true) (k37 : PySem.W.keepIn K (.ref f37) = true)
    {f38 : Addr} {od38 an38 : Option Addr} {sl38 : Array (Option Value)} {oc38 kV38 dc38 pm38 cd38 ct38 : Value}
    (a38 : PySem.W.nsIn K mainGlobals "_law_dot" = some (some (.ref f38))) (l38 : K.lookup f38 = some ⟨oc38, od38, .func (PySem.W.fnOf "_law_dot" "_law_dot" (defArgs s__law_dot) (defBody s__law_dot) (defScope s__law_dot) .none kV38 dc38 pm38 an38 cd38 ct38), sl38⟩) (c38 : PySem.W.codeIn K cd38 "_law_dot" = true) (k38 : PySem.W.keepIn K (.ref f38) = true)
    {f39 : Addr} {od39 an39 : Option Addr} {sl39 : Array (Option Value)} {oc39 kV39 dc39 pm39 cd39 ct39 : Value}
    (a39 : PySem.W.nsIn K mainGlobals "_law_num" = some (some (.ref f39))) (l39 : K.lookup f39 = some ⟨oc39, od39, .func (PySem.W.fnOf "_law_num" "_law_num" (defArgs s__law_num) (defBody s__law_num) (defScope s__law_num) .none kV39 dc39 pm39 an39 cd39 ct39), sl39⟩) (c39 : PySem.W.codeIn K cd39 "_law_num" = true) (k39 : PySem.W.keepIn K (.ref f39) = true)
    {f40 : Addr} {od40 an40 : Option Addr} {sl40 : Array (Option Value)} {oc40 kV40 dc40 pm40 cd40 ct40 : Value}
    (a40 : PySem.W.nsIn K mainGlobals "_law_point" = some (some (.ref f40))) (l40 : K.lookup f40 = some ⟨oc40, od40, .func (PySem.W.fnOf "_law_point" "_law_point" (defArgs s__law_point) (defBody s__law_point) (defScope s__law_point) .none kV40 dc40 pm40 an40 cd40 ct40), sl40⟩) (c40 : PySem.W.codeIn K cd40 "_law_point" = true) (k40 : PySem.W.keepIn K (.ref f40) = true)
    {f41 : Addr} {od41 an41 : Option Addr} {sl41 : Array (Option Value)} {oc41 kV41 dc41 pm41 cd41 ct41 : Value}
    (a41 : PySem.W.nsIn K mainGlobals "_law_way" = some (some (.ref f41))) (l41 : K.lookup f41 = some ⟨oc41, od41, .func (PySem.W.fnOf "_law_way" "_law_way" (defArgs s__law_way) (defBody s__law_way) (defScope s__law_way) .none kV41 dc41 pm41 an41 cd41 ct41), sl41⟩) (c41 : PySem.W.codeIn K cd41 "_law_way" = true) (k41 : PySem.W.keepIn K (.ref f41) = true)
    {f42 : Addr} {od42 an42 : Option Addr} {sl42 : Array (Option Value)} {oc42 kV42 dc42 pm42 cd42 ct42 : Value}
    (a42 : PySem.W.nsIn K mainGlobals "_law_form" = some (some (.ref f42))) (l42 : K.lookup f42 = some ⟨oc42, od42, .func (PySem.W.fnOf "_law_form" "_law_form" (defArgs s__law_form) (defBody s__law_form) (defScope s__law_form) .none kV42 dc42 pm42 an42 cd42 ct42), sl42⟩) (c42 : PySem.W.codeIn K cd42 "_law_form" = true) (k42 : PySem.W.keepIn K (.ref f42) = true)
    {f43 : Addr} {od43 an43 : Option Addr} {sl43 : Array (Option Value)} {oc43 kV43 dc43 pm43 cd43 ct43 : Value}
    (a43 : PySem.W.nsIn K mainGlobals "_law_turn" = some (some (.ref f43))) (l43 : K.lookup f43 = some ⟨oc43, od43, .func (PySem.W.fnOf "_law_turn" "_law_turn" (defArgs s__law_turn) (defBody s__law_turn) (defScope s__law_turn) .none kV43 dc43 pm43 an43 cd43 ct43), sl43⟩) (c43 : PySem.W.codeIn K cd43 "_law_turn" = true) (k43 : PySem.W.keepIn K (.ref f43) = true)
    {f44 : Addr} {od44 an44 : Option Addr} {sl44 : Array (Option Value)} {oc44 kV44 dc44 pm44 cd44 ct44 : Value}
    (a44 : PySem.W.nsIn K mainGlobals "_law_there" = some (some (.ref f44))) (l44 : K.lookup f44 = some ⟨oc44, od44, .func (PySem.W.fnOf "_law_there" "_law_there" (defArgs s__law_there) (defBody s__law_there) (defScope s__law_there) .none kV44 dc44 pm44 an44 cd44 ct44), sl44⟩) (c44 : PySem.W.codeIn K cd44 "_law_there" = true) (k44 : PySem.W.keepIn K (.ref f44) = true)
    {f45 : Addr} {od45 an45 : Option Addr} {sl45 : Array (Option Value)} {oc45 kV45 dc45 pm45 cd45 ct45 : Value}
    (a45 : PySem.W.nsIn K mainGlobals "law" = some (some (.ref f45))) (l45 : K.lookup f45 = some ⟨oc45, od45, .func (PySem.W.fnOf "law" "law" (defArgs s_law) (defBody s_law) (defScope s_law) .none kV45 dc45 pm45 an45 cd45 ct45), sl45⟩) (c45 : PySem.W.codeIn K cd45 "law" = true) (k45 : PySem.W.keepIn K (.ref f45) = true)
    (z0 : PySem.W.nsIn K mainGlobals "abs" = some none)
    (z1 : PySem.W.nsIn K mainGlobals "all" = some none)
    (z2 : PySem.W.nsIn K mainGlobals "bool" = some none)
    (z3 : PySem.W.nsIn K mainGlobals "enumerate" = some none)
    (z4 : PySem.W.nsIn K mainGlobals "int" = some none)
    (z5 : PySem.W.nsIn K mainGlobals "isinstance" = some none)
    (z6 : PySem.W.nsIn K mainGlobals "len" = some none)
    (z7 : PySem.W.nsIn K mainGlobals "list" = some none)
    (z8 : PySem.W.nsIn K mainGlobals "range" = some none)
    (z9 : PySem.W.nsIn K mainGlobals "str" = some none)
    (z10 : PySem.W.nsIn K mainGlobals "tuple" = some none)
    (z11 : PySem.W.nsIn K mainGlobals "zip" = some none)
    : ∃ fd : FuncData, (∀ (s : Shared) (v : Value), BindsTo s fd ⟨[v], []⟩ [("_law_script", v)]) ∧ ∀ base : Heap, K.In base → base.Ns mainGlobals mg → FnOk l.prog w K mg base CX0 20 fa fd ["_law_script"] (sp_law K) := by
  have e := hfa.symm.trans (PySem.W.mg_of X G a45)
  cases e
  have F0 := fun_mk (st := s_frac) l0 c0 k0
  have b0 := F0.binds (ps := ["above", "below"]) fun _ _ _ _ _ _ us hl => match us, hl with | [_, _], _ => rfl
  have F1 := fun_mk (st := s_plus) l1 c1 k1
  have b1 := F1.binds (ps := ["one", "other"]) fun _ _ _ _ _ _ us hl => match us, hl with | [_, _], _ => rfl
  have F2 := fun_mk (st := s_minus) l2 c2 k2
  have b2 := F2.binds (ps := ["one", "other"]) fun _ _ _ _ _ _ us hl => match us, hl with | [_, _], _ => rfl
  have F3 := fun_mk (st := s_times) l3 c3 k3
  have b3 := F3.binds (ps := ["one", "other"]) fun _ _ _ _ _ _ us hl => match us, hl with | [_, _], _ => rfl
  have F4 := fun_mk (st := s_over) l4 c4 k4
  have b4 := F4.binds (ps := ["one", "other"]) fun _ _ _ _ _ _ us hl => match us, hl with | [_, _], _ => rfl
  have F5 := fun_mk (st := s_sign) l5 c5 k5
  have b5 := F5.binds (ps := ["one"]) fun _ _ _ _ _ _ us hl => match us, hl with | [_], _ => rfl
  have F6 := fun_mk (st := s_dot) l6 c6 k6
  have b6 := F6.binds (ps := ["one", "other"]) fun _ _ _ _ _ _ us hl => match us, hl with | [_, _], _ => rfl
  have F7 := fun_mk (st := s_together) l7 c7 k7
  have b7 := F7.binds (ps := ["one", "other"]) fun _ _ _ _ _ _ us hl => match us, hl with | [_, _], _ => rfl
  have F8 := fun_mk (st := s_way_between) l8 c8 k8
  have b8 := F8.binds (ps := ["one", "other"]) fun _ _ _ _ _ _ us hl => match us, hl with | [_, _], _ => rfl
  have F9 := fun_mk (st := s_turned) l9 c9 k9
  have b9 := F9.binds (ps := ["turn", "way"]) fun _ _ _ _ _ _ us hl => match us, hl with | [_, _], _ => rfl
  have F10 := fun_mk (st := s_columns_of) l10 c10 k10
  have b10 := F10.binds (ps := ["turn"]) fun _ _ _ _ _ _ us hl => match us, hl with | [_], _ => rfl
  have F11 := fun_mk (st := s_Whole_nought) l11 c11 k11
  have b11 := F11.binds (ps := ["self"]) fun _ _ _ _ _ _ us hl => match us, hl with | [_], _ => rfl
  have F12 := fun_mk (st := s_Whole_plus) l12 c12 k12
  have b12 := F12.binds (ps := ["self", "one", "other"]) fun _ _ _ _ _ _ us hl => match us, hl with | [_, _, _], _ => rfl
  have F13 := fun_mk (st := s_Whole_times) l13 c13 k13
  have b13 := F13.binds (ps := ["self", "one", "other"]) fun _ _ _ _ _ _ us hl => match us, hl with | [_, _, _], _ => rfl
  have F14 := fun_mk (st := s_Whole_scaled) l14 c14 k14
  have b14 := F14.binds (ps := ["self", "one", "by"]) fun _ _ _ _ _ _ us hl => match us, hl with | [_, _, _], _ => rfl
  have F15 := fun_mk (st := s_Whole_sign) l15 c15 k15
  have b15 := F15.binds (ps := ["self", "one"]) fun _ _ _ _ _ _ us hl => match us, hl with | [_, _], _ => rfl
  have F16 := fun_mk (st := s_Rooted___init__) l16 c16 k16
  have b16 := F16.binds (ps := ["self", "below", "under"]) fun _ _ _ _ _ _ us hl => match us, hl with | [_, _, _], _ => rfl
  have F17 := fun_mk (st := s_Rooted_nought) l17 c17 k17
  have b17 := F17.binds (ps := ["self"]) fun _ _ _ _ _ _ us hl => match us, hl with | [_], _ => rfl
  have F18 := fun_mk (st := s_Rooted_lifted) l18 c18 k18
  have b18 := F18.binds (ps := ["self", "one"]) fun _ _ _ _ _ _ us hl => match us, hl with | [_, _], _ => rfl
  have F19 := fun_mk (st := s_Rooted_plus) l19 c19 k19
  have b19 := F19.binds (ps := ["self", "one", "other"]) fun _ _ _ _ _ _ us hl => match us, hl with | [_, _, _], _ => rfl
  have F20 := fun_mk (st := s_Rooted_times) l20 c20 k20
  have b20 := F20.binds (ps := ["self", "one", "other"]) fun _ _ _ _ _ _ us hl => match us, hl with | [_, _, _], _ => rfl
  have F21 := fun_mk (st := s_Rooted_scaled) l21 c21 k21
  have b21 := F21.binds (ps := ["self", "one", "by"]) fun _ _ _ _ _ _ us hl => match us, hl with | [_, _, _], _ => rfl
  have F22 := fun_mk (st := s_Rooted_sign) l22 c22 k22
  have b22 := F22.binds (ps := ["self", "one"]) fun _ _ _ _ _ _ us hl => match us, hl with | [_, _], _ => rfl
  have F23 := fun_mk (st := s_compare) l23 c23 k23
  have b23 := F23.binds (ps := ["one", "other"]) fun _ _ _ _ _ _ us hl => match us, hl with | [_, _], _ => rfl
  have F24 := fun_mk (st := s_slabs_of) l24 c24 k24
  have b24 := F24.binds (ps := ["leaf"]) fun _ _ _ _ _ _ us hl => match us, hl with | [_], _ => rfl
  have F25 := fun_mk (st := s_ball_of) l25 c25 k25
  have b25 := F25.binds (ps := ["leaf"]) fun _ _ _ _ _ _ us hl => match us, hl with | [_], _ => rfl
  have F26 := fun_mk (st := s_directed) l26 c26 k26
  have b26 := F26.binds (ps := ["towards", "to_low", "to_high", "slab"]) fun _ _ _ _ _ _ us hl => match us, hl with | [_, _, _, _], _ => rfl
  have F27 := fun_mk (st := s_met) l27 c27 k27
  have b27 := F27.binds (ps := ["spans", "order"]) fun _ _ _ _ _ _ us hl => match us, hl with | [_, _], _ => rfl
  have F28 := fun_mk (st := s_flat_moment) l28 c28 k28
  have b28 := F28.binds (ps := ["gap", "slope"]) fun _ _ _ _ _ _ us hl => match us, hl with | [_, _], _ => rfl
  have F29 := fun_mk (st := s_slab_stretch) l29 c29 k29
  have b29 := F29.binds (ps := ["slab", "ray"]) fun _ _ _ _ _ _ us hl => match us, hl with | [_, _], _ => rfl
  have F30 := fun_mk (st := s_ball_stretch) l30 c30 k30
  have b30 := F30.binds (ps := ["leaf", "ray"]) fun _ _ _ _ _ _ us hl => match us, hl with | [_, _], _ => rfl
  have F31 := fun_mk (st := s_leaf_stretch) l31 c31 k31
  have b31 := F31.binds (ps := ["leaf", "ray"]) fun _ _ _ _ _ _ us hl => match us, hl with | [_, _], _ => rfl
  have F32 := fun_mk (st := s__law_open) l32 c32 k32
  have b32 := F32.binds (ps := ["_law_script"]) fun _ _ _ _ _ _ us hl => match us, hl with | [_], _ => rfl
  have F33 := fun_mk (st := s__law_pick) l33 c33 k33
  have b33 := F33.binds (ps := ["_law_deck", "_law_below"]) fun _ _ _ _ _ _ us hl => match us, hl with | [_, _], _ => rfl
  have F34 := fun_mk (st := s__law_same) l34 c34 k34
  have b34 := F34.binds (ps := ["_law_found", "_law_due"]) fun _ _ _ _ _ _ us hl => match us, hl with | [_, _], _ => rfl
  have F35 := fun_mk (st := s__law_fr) l35 c35 k35
  have b35 := F35.binds (ps := ["_law_above", "_law_below"]) fun _ _ _ _ _ _ us hl => match us, hl with | [_, _], _ => rfl
  have F36 := fun_mk (st := s__law_add) l36 c36 k36
  have b36 := F36.binds (ps := ["_law_one", "_law_other"]) fun _ _ _ _ _ _ us hl => match us, hl with | [_, _], _ => rfl
  have F37 := fun_mk (st := s__law_mul) l37 c37 k37
  have b37 := F37.binds (ps := ["_law_one", "_law_other"]) fun _ _ _ _ _ _ us hl => match us, hl with | [_, _], _ => rfl
  have F38 := fun_mk (st := s__law_dot) l38 c38 k38
  have b38 := F38.binds (ps := ["_law_one", "_law_other"]) fun _ _ _ _ _ _ us hl => match us, hl with | [_, _], _ => rfl
  have F39 := fun_mk (st := s__law_num) l39 c39 k39
  have b39 := F39.binds (ps := ["_law_deck", "_law_far"]) fun _ _ _ _ _ _ us hl => match us, hl with | [_, _], _ => rfl
  have F40 := fun_mk (st := s__law_point) l40 c40 k40
  have b40 := F40.binds (ps := ["_law_deck", "_law_far"]) fun _ _ _ _ _ _ us hl => match us, hl with | [_, _], _ => rfl
  have F41 := fun_mk (st := s__law_way) l41 c41 k41
  have b41 := F41.binds (ps := ["_law_deck", "_law_far"]) fun _ _ _ _ _ _ us hl => match us, hl with | [_, _], _ => rfl
  have F42 := fun_mk (st := s__law_form) l42 c42 k42
  have b42 := F42.binds (ps := ["_law_deck"]) fun _ _ _ _ _ _ us hl => match us, hl with | [_], _ => rfl
  have F43 := fun_mk (st := s__law_turn) l43 c43 k43
  have b43 := F43.binds (ps := ["_law_deck"]) fun _ _ _ _ _ _ us hl => match us, hl with | [_], _ => rfl
  have F44 := fun_mk (st := s__law_there) l44 c44 k44
  have b44 := F44.binds (ps := ["_law_turn_here", "_law_slide", "_law_point_here"]) fun _ _ _ _ _ _ us hl => match us, hl with | [_, _, _], _ => rfl
  have F45 := fun_mk (st := s_law) l45 c45 k45
  have T : Tx K mg := ⟨qK0, PySem.W.mg_of X G gK0, fun Γ as H => (vr_written kK0 (by show 2 ≤ sizeLine; decide) (.cons (.int (0)) (.cons (.int (1)) .nil)) (.cons ⟨_, rfl⟩ (.cons ⟨_, rfl⟩ .nil))), qK1, PySem.W.mg_of X G gK1, fun Γ as H => (vr_written kK1 (by show 4 ≤ sizeLine; decide) (.cons .non (.cons .non (.cons .non (.cons .non .nil)))) (.cons rfl (.cons rfl (.cons rfl (.cons rfl .nil))))), C0, ⟨pg0, hd0, po0, sa0⟩, PySem.W.mg_of X G aC0, C1, ⟨pg1, hd1, po1, sa1⟩, PySem.W.mg_of X G aC1, n1_below, n1_under, f0, _, F0, b0, PySem.W.mg_of X G a0, f1, _, F1, b1, PySem.W.mg_of X G a1, f2, _, F2, b2, PySem.W.mg_of X G a2, f3, _, F3, b3, PySem.W.mg_of X G a3, f4, _, F4, b4, PySem.W.mg_of X G a4, f5, _, F5, b5, PySem.W.mg_of X G a5, f6, _, F6, b6, PySem.W.mg_of X G a6, f7, _, F7, b7, PySem.W.mg_of X G a7, f8, _, F8, b8, PySem.W.mg_of X G a8, f9, _, F9, b9, PySem.W.mg_of X G a9, f10, _, F10, b10, PySem.W.mg_of X G a10, f11, _, F11, b11, ⟨a11, i11, k11⟩, f12, _, F12, b12, ⟨a12, i12, k12⟩, f13, _, F13, b13, ⟨a13, i13, k13⟩, f14, _, F14, b14, ⟨a14, i14, k14⟩, f15, _, F15, b15, ⟨a15, i15, k15⟩, f16, _, F16, b16, ⟨mk1, a16, i16, kc1⟩, f17, _, F17, b17, ⟨a17, i17, k17⟩, f18, _, F18, b18, ⟨a18, i18, k18⟩, f19, _, F19, b19, ⟨a19, i19, k19⟩, f20, _, F20, b20, ⟨a20, i20, k20⟩, f21, _, F21, b21, ⟨a21, i21, k21⟩, f22, _, F22, b22, ⟨a22, i22, k22⟩, f23, _, F23, b23, PySem.W.mg_of X G a23, f24, _, F24, b24, PySem.W.mg_of X G a24, f25, _, F25, b25, PySem.W.mg_of X G a25, f26, _, F26, b26, PySem.W.mg_of X G a26, f27, _, F27, b27, PySem.W.mg_of X G a27, f28, _, F28, b28, PySem.W.mg_of X G a28, f29, _, F29, b29, PySem.W.mg_of X G a29, f30, _, F30, b30, PySem.W.mg_of X G a30, f31, _, F31, b31, PySem.W.mg_of X G a31, f32, _, F32, b32, PySem.W.mg_of X G a32, f33, _, F33, b33, PySem.W.mg_of X G a33, f34, _, F34, b34, PySem.W.mg_of X G a34, f35, _, F35, b35, PySem.W.mg_of X G a35, f36, _, F36, b36, PySem.W.mg_of X G a36, f37, _, F37, b37, PySem.W.mg_of X G a37, f38, _, F38, b38, PySem.W.mg_of X G a38, f39, _, F39, b39, PySem.W.mg_of X G a39, f40, _, F40, b40, PySem.W.mg_of X G a40, f41, _, F41, b41, PySem.W.mg_of X G a41, f42, _, F42, b42, PySem.W.mg_of X G a42, f43, _, F43, b43, PySem.W.mg_of X G a43, f44, _, F44, b44, PySem.W.mg_of X G a44, ⟨mk0, oi0, kc0⟩, PySem.W.mg_none_of X G z0, PySem.W.mg_none_of X G z1, PySem.W.mg_none_of X G z2, PySem.W.mg_none_of X G z3, PySem.W.mg_none_of X G z4, PySem.W.mg_none_of X G z5, PySem.W.mg_none_of X G z6, PySem.W.mg_none_of X G z7, PySem.W.mg_none_of X G z8, PySem.W.mg_none_of X G z9, PySem.W.mg_none_of X G z10, PySem.W.mg_none_of X G z11⟩
  exact ⟨PySem.W.fnOf "law" "law" (defArgs s_law) (defBody s_law) (defScope s_law) .none kV45 dc45 pm45 an45 cd45 ct45, fun s v => .of_eq rfl, fun base _ _ => ok_law F45 T⟩
end Sc
open PySem PySem.W PyProof.Rows
set_option maxHeartbeats 0 in
theorem PySem.Challenge.cw_scenetongue_k36_whole_leaves_turned_holds : PySem.Challenge.rw_scenetongue_k36_whole_leaves_turned.Holds := by
  w_on; o_law; k_head; (case hw => w_witness2)
  k_fill
  refine L2.walk_of (l := PySem.Challenge.rw_scenetongue_k36_whole_leaves_turned) (n := 63) (k := 20) (x := "_law_script") (CX := fun _ => L2.CX0) (sp := fun w => Sc.sp_law _) rfl (by decide) rfl ⟨rfl, by decide, by decide⟩ (fun w h Y => PySem.W.kIn_of Y) ?F (fun _ _ a ns hl hO hS => ⟨a, ns, rfl, hO, hS, hl, fun _ => rfl⟩) (fun _ _ _ _ _ h => h)
  case F =>
    intro w mg fa h KX G hmg
    refine' Sc.all_mk KX G hmg ?kK0 ?gK0 ?kK1 ?gK1 ?aC0 ?pg0 ?hd0 ?po0 ?sa0 ?mk0 ?kc0 ?oi0 ?aC1 ?pg1 ?hd1 ?po1 ?sa1 ?mk1 ?kc1 ?n1_below ?n1_under ?a0 ?l0 ?c0 ?k0 ?a1 ?l1 ?c1 ?k1 ?a2 ?l2 ?c2 ?k2 ?a3 ?l3 ?c3 ?k3 ?a4 ?l4 ?c4 ?k4 ?a5 ?l5 ?c5 ?k5 ?a6 ?l6 ?c6 ?k6 ?a7 ?l7 ?c7 ?k7 ?a8 ?l8 ?c8 ?k8 ?a9 ?l9 ?c9 ?k9 ?a10 ?l10 ?c10 ?k10 ?a11 ?i11 ?l11 ?c11 ?k11 ?a12 ?i12 ?l12 ?c12 ?k12 ?a13 ?i13 ?l13 ?c13 ?k13 ?a14 ?i14 ?l14 ?c14 ?k14 ?a15 ?i15 ?l15 ?c15 ?k15 ?a16 ?i16 ?l16 ?c16 ?k16 ?a17 ?i17 ?l17 ?c17 ?k17 ?a18 ?i18 ?l18 ?c18 ?k18 ?a19 ?i19 ?l19 ?c19 ?k19 ?a20 ?i20 ?l20 ?c20 ?k20 ?a21 ?i21 ?l21 ?c21 ?k21 ?a22 ?i22 ?l22 ?c22 ?k22 ?a23 ?l23 ?c23 ?k23 ?a24 ?l24 ?c24 ?k24 ?a25 ?l25 ?c25 ?k25 ?a26 ?l26 ?c26 ?k26 ?a27 ?l27 ?c27 ?k27 ?a28 ?l28 ?c28 ?k28 ?a29 ?l29 ?c29 ?k29 ?a30 ?l30 ?c30 ?k30 ?a31 ?l31 ?c31 ?k31 ?a32 ?l32 ?c32 ?k32 ?a33 ?l33 ?c33 ?k33 ?a34 ?l34 ?c34 ?k34 ?a35 ?l35 ?c35 ?k35 ?a36 ?l36 ?c36 ?k36 ?a37 ?l37 ?c37 ?k37 ?a38 ?l38 ?c38 ?k38 ?a39 ?l39 ?c39 ?k39 ?a40 ?l40 ?c40 ?k40 ?a41 ?l41 ?c41 ?k41 ?a42 ?l42 ?c42 ?k42 ?a43 ?l43 ?c43 ?k43 ?a44 ?l44 ?c44 ?k44 ?a45 ?l45 ?c45 ?k45 ?z0 ?z1 ?z2 ?z3 ?z4 ?z5 ?z6 ?z7 ?z8 ?z9 ?z10 ?z11
    (case gK0 => k_is); (case kK0 => k_is); (case gK1 => k_is); (case kK1 => k_is); (case aC0 => k_is); (case pg0 => k_is); (case hd0 => k_is); (case po0 => k_is); (case sa0 => k_is); (case mk0 => k_is); (case kc0 => k_is); (case oi0 => k_is); (case aC1 => k_is); (case pg1 => k_is); (case hd1 => k_is); (case po1 => k_is); (case sa1 => k_is); (case mk1 => k_is); (case kc1 => k_is); (case n1_below => k_is); (case n1_under => k_is); (case a0 => k_is); (case l0 => k_is); (case c0 => k_is); (case k0 => k_is); (case a1 => k_is); (case l1 => k_is); (case c1 => k_is); (case k1 => k_is); (case a2 => k_is); (case l2 => k_is); (case c2 => k_is); (case k2 => k_is); (case a3 => k_is); (case l3 => k_is); (case c3 => k_is); (case k3 => k_is); (case a4 => k_is); (case l4 => k_is); (case c4 => k_is); (case k4 => k_is); (case a5 => k_is); (case l5 => k_is); (case c5 => k_is); (case k5 => k_is); (case a6 => k_is); (case l6 => k_is); (case c6 => k_is); (case k6 => k_is); (case a7 => k_is); (case l7 => k_is); (case c7 => k_is); (case k7 => k_is); (case a8 => k_is); (case l8 => k_is); (case c8 => k_is); (case k8 => k_is); (case a9 => k_is); (case l9 => k_is); (case c9 => k_is); (case k9 => k_is); (case a10 => k_is); (case l10 => k_is); (case c10 => k_is); (case k10 => k_is); (case a11 => k_is); (case i11 => k_is); (case l11 => k_is); (case c11 => k_is); (case k11 => k_is); (case a12 => k_is); (case i12 => k_is); (case l12 => k_is); (case c12 => k_is); (case k12 => k_is); (case a13 => k_is); (case i13 => k_is); (case l13 => k_is); (case c13 => k_is); (case k13 => k_is); (case a14 => k_is); (case i14 => k_is); (case l14 => k_is); (case c14 => k_is); (case k14 => k_is); (case a15 => k_is); (case i15 => k_is); (case l15 => k_is); (case c15 => k_is); (case k15 => k_is); (case a16 => k_is); (case i16 => k_is); (case l16 => k_is); (case c16 => k_is); (case k16 => k_is); (case a17 => k_is); (case i17 => k_is); (case l17 => k_is); (case c17 => k_is); (case k17 => k_is); (case a18 => k_is); (case i18 => k_is); (case l18 => k_is); (case c18 => k_is); (case k18 => k_is); (case a19 => k_is); (case i19 => k_is); (case l19 => k_is); (case c19 => k_is); (case k19 => k_is); (case a20 => k_is); (case i20 => k_is); (case l20 => k_is); (case c20 => k_is); (case k20 => k_is); (case a21 => k_is); (case i21 => k_is); (case l21 => k_is); (case c21 => k_is); (case k21 => k_is); (case a22 => k_is); (case i22 => k_is); (case l22 => k_is); (case c22 => k_is); (case k22 => k_is); (case a23 => k_is); (case l23 => k_is); (case c23 => k_is); (case k23 => k_is); (case a24 => k_is); (case l24 => k_is); (case c24 => k_is); (case k24 => k_is); (case a25 => k_is); (case l25 => k_is); (case c25 => k_is); (case k25 => k_is); (case a26 => k_is); (case l26 => k_is); (case c26 => k_is); (case k26 => k_is); (case a27 => k_is); (case l27 => k_is); (case c27 => k_is); (case k27 => k_is); (case a28 => k_is); (case l28 => k_is); (case c28 => k_is); (case k28 => k_is); (case a29 => k_is); (case l29 => k_is); (case c29 => k_is); (case k29 => k_is); (case a30 => k_is); (case l30 => k_is); (case c30 => k_is); (case k30 => k_is); (case a31 => k_is); (case l31 => k_is); (case c31 => k_is); (case k31 => k_is); (case a32 => k_is); (case l32 => k_is); (case c32 => k_is); (case k32 => k_is); (case a33 => k_is); (case l33 => k_is); (case c33 => k_is); (case k33 => k_is); (case a34 => k_is); (case l34 => k_is); (case c34 => k_is); (case k34 => k_is); (case a35 => k_is); (case l35 => k_is); (case c35 => k_is); (case k35 => k_is); (case a36 => k_is); (case l36 => k_is); (case c36 => k_is); (case k36 => k_is); (case a37 => k_is); (case l37 => k_is); (case c37 => k_is); (case k37 => k_is); (case a38 => k_is); (case l38 => k_is); (case c38 => k_is); (case k38 => k_is); (case a39 => k_is); (case l39 => k_is); (case c39 => k_is); (case k39 => k_is); (case a40 => k_is); (case l40 => k_is); (case c40 => k_is); (case k40 => k_is); (case a41 => k_is); (case l41 => k_is); (case c41 => k_is); (case k41 => k_is); (case a42 => k_is); (case l42 => k_is); (case c42 => k_is); (case k42 => k_is); (case a43 => k_is); (case l43 => k_is); (case c43 => k_is); (case k43 => k_is); (case a44 => k_is); (case l44 => k_is); (case c44 => k_is); (case k44 => k_is); (case a45 => k_is); (case l45 => k_is); (case c45 => k_is); (case k45 => k_is); (case z0 => k_is); (case z1 => k_is); (case z2 => k_is); (case z3 => k_is); (case z4 => k_is); (case z5 => k_is); (case z6 => k_is); (case z7 => k_is); (case z8 => k_is); (case z9 => k_is); (case z10 => k_is); (case z11 => k_is)
