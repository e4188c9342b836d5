import PyProof.Rows.All
import Wide.All
import OpenK.AllK
import Wide.FinOn
import HandS.ForMost
import HandS.Wide
import HandS.WideBits
import HandS.IsInst
import HandS.Walk
import HandS.Zip
import HandS.Style
import HandS.Star
import HandS.More
import HandS.TupAny
import HandS.Comp
import HandS.NoneIn
import HandS.TupSets
import HandS.Rev
import HandS.CallLocal
import HandS.Flow
import HandS.TryOnly
import HandS.TupMul
import HandS.RevRange
import KE.GoesMore
import KE.DataFind
import PySem.Challenge.RW_scenetongue_k57_boxes_along_rays
set_option Elab.async false
set_option linter.all false
set_option maxRecDepth 100000
set_option maxHeartbeats 4000000

namespace Sc
open PySem PySem.Spec PyProof.Rows L2

/- the greatest common divisor with the sign of b -/
def sg (a b : Int) : Int := if b < 0 then -(Int.gcd a b : Int) else (Int.gcd a b : Int)
/- the loop of frac between two turns -/
def GInv (a b x y : Int) : Prop := Int.gcd x y = Int.gcd a b ∧ ((0 < b ∧ 0 ≤ y ∧ y < x ∧ x ≤ b) ∨ (b < 0 ∧ y ≤ 0 ∧ x < y ∧ b ≤ x))
theorem gcd_step (x y : Int) : Int.gcd y (x.fmod y) = Int.gcd x y := by
  rw [Int.fmod_def, Int.mul_comm, Int.gcd_sub_mul_right_right, Int.gcd_comm]
theorem fmod_pos {x y : Int} (h : 0 < y) : 0 ≤ x.fmod y ∧ x.fmod y < y := ⟨Int.fmod_nonneg_of_pos x h, Int.fmod_lt_of_pos x h⟩
theorem fmod_neg {x y : Int} (h : y < 0) : x.fmod y ≤ 0 ∧ y < x.fmod y := by
  have h' : 0 < -y := by omega
  have e := Int.neg_fmod_neg (-x) (-y)
  rw [Int.neg_neg, Int.neg_neg] at e
  have h1 := Int.fmod_nonneg_of_pos (-x) h'
  have h2 := Int.fmod_lt_of_pos (-x) h'
  omega
theorem GInv.start {a b : Int} (hb : b ≠ 0) : GInv a b b (a.fmod b) := by
  refine ⟨gcd_step a b, ?_⟩
  by_cases hp : 0 < b
  · have := @fmod_pos a b hp
    exact .inl ⟨hp, by omega, by omega, Int.le_refl _⟩
  · have hn : b < 0 := by omega
    have := @fmod_neg a b hn
    exact .inr ⟨hn, by omega, by omega, Int.le_refl _⟩
theorem GInv.next {a b x y : Int} (h : GInv a b x y) (hy : y ≠ 0) : GInv a b y (x.fmod y) ∧ (x.fmod y).natAbs < y.natAbs := by
  obtain ⟨hg, hs⟩ := h
  rcases hs with ⟨h1, h2, h3, h4⟩ | ⟨h1, h2, h3, h4⟩
  · have f := @fmod_pos x y (by omega)
    exact ⟨⟨by rw [gcd_step, hg], .inl ⟨h1, by omega, by omega, by omega⟩⟩, by omega⟩
  · have f := @fmod_neg x y (by omega)
    exact ⟨⟨by rw [gcd_step, hg], .inr ⟨h1, by omega, by omega, by omega⟩⟩, by omega⟩
theorem GInv.fin {a b x : Int} (h : GInv a b x 0) : x = sg a b := by
  obtain ⟨hg, hs⟩ := h
  rw [Int.gcd_zero_right] at hg
  unfold sg
  rw [← hg]
  split <;> omega
theorem GInv.ne {a b x y : Int} (h : GInv a b x y) : x ≠ 0 ∧ x.natAbs ≤ b.natAbs := by
  obtain ⟨hg, hs⟩ := h
  omega
/- the law's own: without signs -/
def HInv (a b x y : Int) : Prop := Int.gcd x y = Int.gcd a b ∧ 0 ≤ x ∧ 0 ≤ y
theorem HInv.next {a b x y : Int} (h : HInv a b x y) (hy : 0 < y) : HInv a b y (x.fmod y) ∧ (x.fmod y).natAbs < y.natAbs := by
  obtain ⟨hg, hx, _⟩ := h
  have f := @fmod_pos x y hy
  exact ⟨⟨by rw [gcd_step, hg], by omega, f.1⟩, by omega⟩
theorem HInv.fin {a b x y : Int} (h : HInv a b x y) (hy : ¬ 0 < y) : x = (Int.gcd a b : Int) := by
  obtain ⟨hg, hx, h3⟩ := h
  have e : y = 0 := by omega
  subst e
  rw [Int.gcd_zero_right] at hg
  omega
theorem sg_ne {a b : Int} (hb : b ≠ 0) : sg a b ≠ 0 ∧ (sg a b).natAbs ≤ b.natAbs := by
  have h1 : 0 < Int.gcd a b := Int.gcd_pos_of_ne_zero_right a hb
  have h2 : Int.gcd a b ≤ b.natAbs := Nat.le_of_dvd (by omega) (Int.gcd_dvd_natAbs_right a b)
  unfold sg
  split <;> omega
theorem sg_num {a b : Int} (hb : b ≠ 0) : a.fdiv (sg a b) = (Rat.divInt a b).num := by
  rw [Rat.num_divInt, Int.gcd_comm]
  have d : ((Int.gcd a b : Nat) : Int) ∣ a := Int.gcd_dvd_left a b
  unfold sg
  by_cases h : b < 0
  · rw [if_pos h, Int.sign_eq_neg_one_of_neg h, Int.fdiv_eq_ediv_of_dvd (Int.neg_dvd.mpr d), Int.ediv_neg, Int.neg_mul, Int.one_mul, Int.neg_ediv_of_dvd d]
  · rw [if_neg h, Int.fdiv_eq_ediv_of_dvd d]
    rw [Int.sign_eq_one_of_pos (by omega), Int.one_mul]
theorem sg_den {a b : Int} (hb : b ≠ 0) : b.fdiv (sg a b) = ((Rat.divInt a b).den : Int) := by
  rw [Rat.den_divInt, if_neg hb, Int.gcd_comm b a]
  have d : ((Int.gcd a b : Nat) : Int) ∣ b := Int.gcd_dvd_right a b
  unfold sg
  by_cases h : b < 0
  · rw [if_pos h, Int.fdiv_eq_ediv_of_dvd (Int.neg_dvd.mpr d), Int.ediv_neg, ← Int.neg_ediv_of_dvd d, Int.natCast_ediv]
    congr 1
    omega
  · rw [if_neg h, Int.fdiv_eq_ediv_of_dvd d, Int.natCast_ediv]
    congr 1
    omega

/-! ### sizes -/
def Bt (n : Nat) (x : Int) : Prop := x.natAbs < 2 ^ n
theorem Bt.mono {m n : Nat} {x : Int} (h : Bt m x) (hn : m ≤ n) : Bt n x := Nat.lt_of_lt_of_le h (Nat.pow_le_pow_right (by decide) hn)
theorem Bt.le {n : Nat} {x y : Int} (hy : Bt n y) (h : x.natAbs ≤ y.natAbs) : Bt n x := Nat.lt_of_le_of_lt h hy
theorem Bt.mul {m n : Nat} {x y : Int} (hx : Bt m x) (hy : Bt n y) : Bt (m + n) (x * y) := by
  unfold Bt at *
  rw [Int.natAbs_mul, Nat.pow_add]
  exact Nat.mul_lt_mul'' hx hy
theorem Bt.add {n : Nat} {x y : Int} (hx : Bt n x) (hy : Bt n y) : Bt (n + 1) (x + y) := by
  unfold Bt at *
  rw [Nat.pow_succ]
  omega
theorem Bt.neg {n : Nat} {x : Int} (hx : Bt n x) : Bt n (-x) := by
  unfold Bt at *
  rw [Int.natAbs_neg]
  exact hx
theorem Bt.sub {n : Nat} {x y : Int} (hx : Bt n x) (hy : Bt n y) : Bt (n + 1) (x - y) := by
  unfold Bt at *
  rw [Nat.pow_succ]
  omega
/- a fraction's two parts -/
def Rb (n : Nat) (q : Rat) : Prop := Bt n q.num ∧ Bt n (q.den : Int)
theorem Rb.mono {m n : Nat} {q : Rat} (h : Rb m q) (hn : m ≤ n) : Rb n q := ⟨h.1.mono hn, h.2.mono hn⟩
theorem den_ne (q : Rat) : ((q.den : Nat) : Int) ≠ 0 := by
  have := q.den_pos
  omega
theorem rb_div {n : Nat} {a b : Int} (hb : b ≠ 0) (h1 : Bt n a) (h2 : Bt n b) : Rb n (Rat.divInt a b) := by
  have hs := (sg_ne (a := a) hb).1
  have e1 : a.fdiv (sg a b) * sg a b = a := Int.fdiv_mul_cancel (by
    unfold sg
    split
    · exact Int.neg_dvd.mpr (Int.gcd_dvd_left a b)
    · exact Int.gcd_dvd_left a b)
  have e2 : b.fdiv (sg a b) * sg a b = b := Int.fdiv_mul_cancel (by
    unfold sg
    split
    · exact Int.neg_dvd.mpr (Int.gcd_dvd_right a b)
    · exact Int.gcd_dvd_right a b)
  have k : ∀ x y : Int, x * sg a b = y → x.natAbs ≤ y.natAbs := fun x y e => by
    rw [← e, Int.natAbs_mul]
    exact Nat.le_mul_of_pos_right _ (by omega)
  rw [sg_num hb] at e1
  rw [sg_den hb] at e2
  exact ⟨h1.le (k _ _ e1), h2.le (k _ _ e2)⟩
theorem rat_sum (q r : Rat) : Rat.divInt (q.num * r.den + r.num * q.den) (q.den * r.den) = q + r := by
  rw [← Rat.divInt_add_divInt _ _ (den_ne q) (den_ne r), Rat.num_divInt_den, Rat.num_divInt_den]
theorem rat_less (q r : Rat) : Rat.divInt (q.num * r.den - r.num * q.den) (q.den * r.den) = q - r := by
  rw [← Rat.divInt_sub_divInt _ _ (den_ne q) (den_ne r), Rat.num_divInt_den, Rat.num_divInt_den]
theorem rat_prod (q r : Rat) : Rat.divInt (q.num * r.num) (q.den * r.den) = q * r := by
  rw [← Rat.divInt_mul_divInt, Rat.num_divInt_den, Rat.num_divInt_den]
theorem rat_quot (q r : Rat) : Rat.divInt (q.num * r.den) (q.den * r.num) = q / r := by
  rw [Rat.div_def, Rat.inv_def, ← Rat.divInt_mul_divInt, Rat.num_divInt_den]
theorem Rb.add {m n : Nat} {q r : Rat} (hq : Rb m q) (hr : Rb n r) : Rb (m + n + 1) (q + r) := by
  rw [← rat_sum]
  exact rb_div (Int.mul_ne_zero (den_ne q) (den_ne r)) ((hq.1.mul hr.2).add ((hr.1.mul hq.2).mono (by omega))) ((hq.2.mul hr.2).mono (by omega))
theorem Rb.sub {m n : Nat} {q r : Rat} (hq : Rb m q) (hr : Rb n r) : Rb (m + n + 1) (q - r) := by
  rw [← rat_less]
  exact rb_div (Int.mul_ne_zero (den_ne q) (den_ne r)) ((hq.1.mul hr.2).sub ((hr.1.mul hq.2).mono (by omega))) ((hq.2.mul hr.2).mono (by omega))
theorem Rb.mul {m n : Nat} {q r : Rat} (hq : Rb m q) (hr : Rb n r) : Rb (m + n) (q * r) := by
  rw [← rat_prod]
  exact rb_div (Int.mul_ne_zero (den_ne q) (den_ne r)) (hq.1.mul hr.1) (hq.2.mul hr.2)
theorem num_ne {r : Rat} (h : r ≠ 0) : r.num ≠ 0 := fun e => h (Rat.num_eq_zero.mp e)
theorem Rb.div {m n : Nat} {q r : Rat} (hq : Rb m q) (hr : Rb n r) (h : r ≠ 0) : Rb (m + n) (q / r) := by
  rw [← rat_quot]
  exact rb_div (Int.mul_ne_zero (den_ne q) (num_ne h)) (hq.1.mul hr.2) (hq.2.mul hr.1)

/-! ### rules of numbers -/
section
variable {X : Cx}
theorem op_fdX : OpR X (binaryOp .FloorDiv) (rI (fun _ j => j ≠ 0 ∧ Bt 9000 j) fun i j => .int (i.fdiv j)) := opI fun _ _ _ _ _ _ _ hc q =>
  floordiv_int hc.1 q (.inl (PyProof.noPylong_of_log2 (PySem.Flt.log2_lt_of (by decide) hc.2)))
end

/-! ### enumerate of a tuple -/
section
open Sem (wp)
set_option maxHeartbeats 1000000 in
end
/-! ### zip of any number of lists and tuples -/
def IsIt (h : Heap) (t : Bool) (it l : Addr) (i : Nat) : Prop := if t = true then h.IsTupleIter it l i else h.IsListIter it l i
def IsSq (h : Heap) (t : Bool) (l : Addr) (xs : Array Value) : Prop := if t = true then h.IsTuple l xs else h.IsList l xs
theorem IsIt.at {h h' : Heap} {t : Bool} {it l : Addr} {i : Nat} (x : IsIt h t it l i) (e : ∀ o, h.get? it = some o → h'.get? it = some o) : IsIt h' t it l i := by
  cases t
  · exact Heap.IsListIter.at x e
  · exact Heap.IsTupleIter.at x e
theorem IsSq.at {h h' : Heap} {t : Bool} {l : Addr} {xs : Array Value} (x : IsSq h t l xs) (e : ∀ o, h.get? l = some o → h'.get? l = some o) : IsSq h' t l xs := by
  cases t
  · obtain ⟨o, ho, r⟩ := x
    exact ⟨o, e _ ho, r⟩
  · obtain ⟨o, ho, r⟩ := x
    exact ⟨o, e _ ho, r⟩
theorem IsSq.there {h : Heap} {t : Bool} {l : Addr} {xs : Array Value} (x : IsSq h t l xs) : ∃ o, h.get? l = some o := by
  cases t
  · obtain ⟨o, ho, r⟩ := x
    exact ⟨o, ho⟩
  · obtain ⟨o, ho, r⟩ := x
    exact ⟨o, ho⟩
theorem IsIt.there {h : Heap} {t : Bool} {it l : Addr} {i : Nat} (x : IsIt h t it l i) : ∃ o, h.get? it = some o ∧ ∀ v, o.data ≠ .cell v := by
  cases t
  · obtain ⟨o, ho, _, d⟩ := x
    exact ⟨o, ho, fun v q => by rw [d] at q; cases q⟩
  · obtain ⟨o, ho, _, d⟩ := x
    exact ⟨o, ho, fun v q => by rw [d] at q; cases q⟩
section
variable {prog : Program} {w : World} {A : Around} {E : Value → Shared → Prop} {s : Shared}
theorem nextIt_item {t : Bool} {it l : Addr} {i : Nat} {xs : Array Value} {x : Value} {Q : Value → Shared → Prop} (hit : IsIt s.heap t it l i) (hl : IsSq s.heap t l xs) (hx : xs[i]? = some x)
    (hQ : ∀ h', IsIt h' t it l (i + 1) → Heap.SameBut it s.heap h' → Q x { s with heap := h' }) : wpAny (model prog w) A (Builtin.SmallTypes.nextOf (.ref it)) Q E s := by
  cases t
  · exact wpAny_nextOf_list_item hit hl hx hQ
  · exact RZ.nextOf_tuple_item hit hl hx hQ
theorem nextIt_end {t : Bool} {it l : Addr} {i : Nat} {xs : Array Value} {Q : Value → Shared → Prop} (hh : A.handled = none) (hit : IsIt s.heap t it l i) (hl : IsSq s.heap t l xs) (hx : xs[i]? = none)
    (hE : ∀ h' e, Heap.ExtBut it s.heap h' → (∃ o, h'.get? e = some o ∧ o.cls = .type "StopIteration") → E (.ref e) { s with heap := h' }) : wpAny (model prog w) A (Builtin.SmallTypes.nextOf (.ref it)) Q E s := by
  cases t
  · exact wpAny_nextOf_list_end hh hit hl hx hE
  · exact RZ.nextOf_tuple_end hh hit hl hx hE
end
structure Zs where
  t : Bool
  it : Addr
  l : Addr
abbrev IsTV (h : Heap) (T : Addr) (vs : Array Value) : Prop := h.get? T = some { cls := .type "tuple", data := .seq vs }
def zits (zs : List Zs) : List Addr := zs.map (·.it)
structure ZApart (z TI TO : Addr) (zs : List Zs) : Prop where
  nd : (z :: TI :: TO :: zits zs).Nodup
  ls : ∀ c ∈ zs, c.l ∉ z :: TI :: TO :: zits zs
section
variable {z TI TO : Addr} {zs : List Zs}
theorem ZApart.TIz (D : ZApart z TI TO zs) : TI ≠ z := fun e => (List.nodup_cons.mp D.nd).1 (by rw [← e]; exact List.mem_cons_self)
theorem ZApart.TOz (D : ZApart z TI TO zs) : TO ≠ z := fun e => (List.nodup_cons.mp D.nd).1 (by rw [← e]; exact List.mem_cons_of_mem _ List.mem_cons_self)
theorem ZApart.TITO (D : ZApart z TI TO zs) : TI ≠ TO := fun e => (List.nodup_cons.mp (List.nodup_cons.mp D.nd).2).1 (by rw [e]; exact List.mem_cons_self)
theorem mem_zits {c : Zs} (h : c ∈ zs) : c.it ∈ zits zs := List.mem_map.mpr ⟨c, h, rfl⟩
theorem ZApart.iz (D : ZApart z TI TO zs) {c : Zs} (h : c ∈ zs) : c.it ≠ z := fun e => (List.nodup_cons.mp D.nd).1 (by rw [← e]; exact List.mem_cons_of_mem _ (List.mem_cons_of_mem _ (mem_zits h)))
theorem ZApart.iTI (D : ZApart z TI TO zs) {c : Zs} (h : c ∈ zs) : c.it ≠ TI := fun e => (List.nodup_cons.mp (List.nodup_cons.mp D.nd).2).1 (by rw [← e]; exact List.mem_cons_of_mem _ (mem_zits h))
theorem ZApart.iTO (D : ZApart z TI TO zs) {c : Zs} (h : c ∈ zs) : c.it ≠ TO := fun e => (List.nodup_cons.mp (List.nodup_cons.mp (List.nodup_cons.mp D.nd).2).2).1 (by rw [← e]; exact mem_zits h)
theorem ZApart.lz (D : ZApart z TI TO zs) {c : Zs} (h : c ∈ zs) : c.l ≠ z := fun e => D.ls c h (by rw [e]; exact List.mem_cons_self)
theorem ZApart.lTO (D : ZApart z TI TO zs) {c : Zs} (h : c ∈ zs) : c.l ≠ TO := fun e => D.ls c h (by rw [e]; exact List.mem_cons_of_mem _ (List.mem_cons_of_mem _ List.mem_cons_self))
theorem ZApart.li (D : ZApart z TI TO zs) {c d : Zs} (h : c ∈ zs) (k : d ∈ zs) : c.l ≠ d.it := fun e => D.ls c h (by rw [e]; exact List.mem_cons_of_mem _ (List.mem_cons_of_mem _ (List.mem_cons_of_mem _ (mem_zits k))))
theorem ZApart.ii (D : ZApart z TI TO zs) {i j : Nat} {c d : Zs} (h : zs[i]? = some c) (k : zs[j]? = some d) (hn : i ≠ j) : c.it ≠ d.it := fun e => by
  have n : (zits zs).Nodup := (List.nodup_cons.mp (List.nodup_cons.mp (List.nodup_cons.mp D.nd).2).2).2
  have a : (zits zs)[i]? = some c.it := by rw [zits, List.getElem?_map, h]; rfl
  have b : (zits zs)[j]? = some d.it := by rw [zits, List.getElem?_map, k]; rfl
  exact hn ((List.getElem?_inj (List.getElem?_eq_some_iff.mp a).1 n).mp (by rw [a, b, e]))
/- the first j of them have gone on -/
structure ZSt (h0 : Heap) (z TI TO : Addr) (zs : List Zs) (k : Nat) (vs : List Value) (old : Array Value) (j : Nat) (h : Heap) : Prop where
  zp : IsZip h z TI TO .ellipsis
  out : ∃ cur : Array Value, IsTV h TO cur ∧ cur.size = zs.length ∧ ∀ m, m < j → cur[m]? = vs[m]?
  its : ∀ m c, zs[m]? = some c → IsIt h c.t c.it c.l (if m < j then k + 1 else k)
  keep : ∀ c o, c ≠ z → c ≠ TO → c ∉ zits zs → h0.get? c = some o → h.get? c = some o
  size : h.objs.size = h0.objs.size
variable {prog : Program} {w : World} {A : Around} {E : Value → Shared → Prop} {s : Shared}
theorem zipN_next_item {k : Nat} {vs : List Value} {old : Array Value} {Q : Value → Shared → Prop} (D : ZApart z TI TO zs) (hn : zs ≠ []) (hz : IsZip s.heap z TI TO .none) (hTI : IsTV s.heap TI (zs.map fun c => Value.ref c.it).toArray) (hTO : IsTV s.heap TO old) (hold : old.size = zs.length) (hln : zs.length ≤ 1000)
    (h1 : ∀ c ∈ zs, IsIt s.heap c.t c.it c.l k) (hlen : vs.length = zs.length) (h2 : ∀ (m : Nat) (c : Zs) (v : Value), zs[m]? = some c → vs[m]? = some v → ∃ xs, IsSq s.heap c.t c.l xs ∧ xs[k]? = some v)
    (hQ : ∀ h', IsZip h' z TI TO (rawInt s.heap.objs.size) → IsTV h' TO vs.toArray → (∀ c ∈ zs, IsIt h' c.t c.it c.l (k + 1)) → IsTV h' s.heap.objs.size vs.toArray → h'.objs.size = s.heap.objs.size + 1 →
      (∀ c o, c ≠ z → c ≠ TO → c ∉ zits zs → s.heap.get? c = some o → h'.get? c = some o) → Q (.ref s.heap.objs.size) { s with heap := h' }) :
    wpAny (model prog w) A (Builtin.«zip.__next__» ⟨[.ref z], []⟩) (fun fin s' => ∃ v, fin = .done (.ret v) ∧ Q v s') E s := by
  show wpAny _ _ (field (.ref z) 2 >>= _) _ _ _
  refine wpAny_bind (wpAny_field hz rfl (x := .bool false) rfl ?_)
  show wpAny _ _ (field (.ref z) 3 >>= _) _ _ _
  refine wpAny_bind (wpAny_field hz rfl (x := .ref TI) rfl ?_)
  refine wpAny_bind (wpAny_seqItems hTI rfl ?_)
  have hne : (zs.map fun c => Value.ref c.it).toArray.isEmpty = false := by
    cases zs with
    | nil => exact absurd rfl hn
    | cons a l => rfl
  simp only [hne, Bool.false_eq_true, if_false]
  show wpAny _ _ (Builtin.SmallTypes.ownedTupleIsFree (.ref z) >>= _) _ _ _
  refine wpAny_bind ?_
  unfold Builtin.SmallTypes.ownedTupleIsFree
  refine wpAny_bind (wpAny_field hz rfl (x := .none) rfl (wpAny_pure ?_))
  simp only [if_true]
  refine wpAny_bind (wpAny_rule ?_)
  refine wpAny_bind (wpAny_field hz rfl (x := .ref TO) rfl ?_)
  refine wpAny_bind (wpAny_setField_rec hz (by simp) fun h₁ hz₁ hs₁ => ?_)
  replace hz₁ : IsZip h₁ z TI TO .ellipsis := hz₁
  refine wpAny_bind (wpAny_forIn_list _ (fun rest b s' => b.1 = none ∧ ∃ j h, j ≤ zs.length ∧ rest = ((zs.map fun c => Value.ref c.it).zipIdx).drop j ∧ s' = { s with heap := h } ∧ ZSt s.heap z TI TO zs k vs old j h) _ ?_ ?_ _ _ ?_)
  · rintro x rest ⟨b1, b2⟩ s' ⟨hb, j, h, hj, hrest, rfl, st⟩
    simp only at hb
    subst hb
    have hlt : j < ((zs.map fun c => Value.ref c.it).zipIdx).length := by
      apply Classical.byContradiction
      intro q
      rw [List.drop_eq_nil_of_le (by omega)] at hrest
      cases hrest
    rw [List.drop_eq_getElem_cons hlt] at hrest
    have hjz : j < zs.length := by simpa using hlt
    have hc : zs[j]? = some zs[j] := List.getElem?_eq_getElem hjz
    have hcm : zs[j] ∈ zs := List.getElem_mem hjz
    obtain ⟨hx, hrest'⟩ := List.cons.inj hrest
    clear hrest
    simp only [List.getElem_zipIdx, List.getElem_map, Nat.zero_add] at hx
    subst hx
    generalize hcc : zs[j] = c at *
    have hv : vs[j]? = some vs[j] := List.getElem?_eq_getElem (by omega)
    generalize vs[j] = v at *
    obtain ⟨xs, hsq, hxk⟩ := h2 j c v hc hv
    have hit := st.its j c hc
    rw [if_neg (Nat.lt_irrefl _)] at hit
    have hsq' : IsSq h c.t c.l xs := hsq.at fun o e => st.keep _ o (D.lz hcm) (D.lTO hcm) (fun q => by
      obtain ⟨d, hd, e⟩ := List.mem_map.mp q
      exact D.li hcm hd e.symm) e
    obtain ⟨cur, hcur, hcs, hcv⟩ := st.out
    refine wpAny_bind (wpAny_onRaise ?_)
    show wpAny _ _ (Builtin.SmallTypes.nextOf (.ref c.it) >>= _) _ _ _
    refine wpAny_bind (nextIt_item (s := { s with heap := h }) hit hsq' hxk fun h₂ hi₂ hs₂ => wpAny_pure ?_)
    have hTO₂ : IsTV h₂ TO cur := hs₂.extBut _ _ (D.iTO hcm).symm hcur
    refine wpAny_bind (wpAny_seqItems hTO₂ rfl ?_)
    refine wpAny_bind (wpAny_updateSeq (s := { s with heap := h₂ }) hTO₂ rfl ?_ (by rw [hcs]; exact Nat.le_trans hln (by decide)) (by
      rw [Array.size_setIfInBounds, hcs]
      exact Nat.le_trans hln (by decide)))
    have hs₃ : Heap.SameBut TO h₂ (h₂.update TO (Obj.mapSeq fun x => x.setIfInBounds j v)) := Heap.SameBut.update ..
    have hTO₃ : IsTV (h₂.update TO (Obj.mapSeq fun x => x.setIfInBounds j v)) TO (cur.setIfInBounds j v) := by
      show Heap.get? _ _ = _
      rw [Heap.get?_update_self _ hTO₂ rfl]
      simp [Obj.mapSeq]
    generalize h₂.update TO (Obj.mapSeq fun x => x.setIfInBounds j v) = h₃ at *
    refine wpAny_bind (wpAny_letGo (wpAny_pure ⟨rfl, j + 1, h₃, by omega, hrest', rfl, ?_⟩))
    refine ⟨hs₃.extBut _ _ D.TOz.symm (hs₂.extBut _ _ (D.iz hcm).symm st.zp), ⟨_, hTO₃, by rw [Array.size_setIfInBounds, hcs], fun m hm => ?_⟩, fun m d hd => ?_, fun a o n1 n2 n3 e => ?_, ?_⟩
    · by_cases e : m = j
      · subst e
        rw [hv, Array.getElem?_setIfInBounds_self_of_lt (by omega)]
      · rw [Array.getElem?_setIfInBounds_ne (by omega)]
        exact hcv m (by omega)
    · have hdm : d ∈ zs := List.mem_of_getElem? hd
      by_cases e : m = j
      · subst e
        rw [hc] at hd
        cases hd
        rw [if_pos (by omega)]
        exact hi₂.at fun o q => hs₃.extBut _ _ (D.iTO hcm) q
      · have := st.its m d hd
        have e2 : (if m < j + 1 then k + 1 else k) = if m < j then k + 1 else k := by
          by_cases q : m < j
          · rw [if_pos q, if_pos (by omega)]
          · rw [if_neg q, if_neg (by omega)]
        rw [e2]
        exact this.at fun o q => hs₃.extBut _ _ (D.iTO hdm) (hs₂.extBut _ _ (D.ii hd hc e) q)
    · exact hs₃.extBut _ _ n2 (hs₂.extBut _ _ (fun q => n3 (by rw [q]; exact mem_zits hcm)) (st.keep a o n1 n2 n3 e))
    · rw [hs₃.1, hs₂.1]
      exact st.size
  · rintro ⟨b1, b2⟩ s' ⟨hb, j, h, hj, hrest, rfl, st⟩
    simp only at hb
    subst hb
    have hjz : j = zs.length := by
      have := congrArg List.length hrest
      simp at this
      omega
    subst hjz
    obtain ⟨cur, hcur, hcs, hcv⟩ := st.out
    have hce : cur = vs.toArray := by
      apply Array.ext_getElem?
      intro m
      by_cases q : m < zs.length
      · rw [hcv m q]
        simp
      · rw [Array.getElem?_eq_none (by omega), Array.getElem?_eq_none (by simp; omega)]
    subst hce
    refine wpAny_bind (wpAny_seqItems (s := { s with heap := h }) hcur rfl ?_)
    refine wpAny_bind (wpAny_newTuple ?_ (by simp only [List.toList_toArray]; rw [hlen]; exact Nat.le_trans hln (by decide)))
    have hzlt : z < h.objs.size := Heap.lt_size st.zp
    show wpAny _ _ (Builtin.SmallTypes.ownedTupleHandOut (.ref z) (.ref h.objs.size) >>= _) _ _ _
    refine wpAny_bind ?_
    unfold Builtin.SmallTypes.ownedTupleHandOut
    have hz₆ : IsZip (h.push { cls := .type "tuple", data := .seq vs.toArray.toList.toArray }) z TI TO .ellipsis := Heap.get?_push_of_some _ st.zp
    refine wpAny_bind (wpAny_setField_rec (s := { s with heap := h.push { cls := .type "tuple", data := .seq vs.toArray.toList.toArray } }) hz₆ (by simp) fun h₇ hz₇ hs₇ => ?_)
    replace hz₇ : IsZip h₇ z TI TO (rawInt h.objs.size) := hz₇
    refine wpAny_setField_rec hz₇ (by simp) fun h₈ hz₈ hs₈ => ?_
    replace hz₈ : IsZip h₈ z TI TO (rawInt h.objs.size) := hz₈
    have up : ∀ c o, c ≠ z → h.get? c = some o → h₈.get? c = some o := fun c o c1 e => hs₈.extBut _ _ c1 (hs₇.extBut _ _ c1 (Heap.get?_push_of_some _ e))
    have hT₈ : IsTV h₈ h.objs.size vs.toArray := hs₈.extBut _ _ (Nat.ne_of_gt hzlt) (hs₇.extBut _ _ (Nat.ne_of_gt hzlt) (Heap.get?_push_size _ rfl))
    have hz8 : h₈.objs.size = h.objs.size + 1 := by rw [hs₈.1, hs₇.1, Heap.size_push]
    have hsz := st.size
    rw [hsz] at hz₈ hT₈ hz8
    refine wpAny_pure ⟨_, rfl, ?_⟩
    show Q (.ref h.objs.size) _
    rw [hsz]
    exact hQ h₈ hz₈ (up _ _ D.TOz hcur) (fun c hc => by
      obtain ⟨m, hm⟩ := List.getElem?_of_mem hc
      have := st.its m c hm
      rw [if_pos (List.getElem?_eq_some_iff.mp hm).1] at this
      exact this.at fun o e => up _ o (D.iz hc) e) hT₈ hz8 fun c o c1 c2 c3 e => up c o c1 (st.keep c o c1 c2 c3 e)
  · refine ⟨rfl, 0, h₁, Nat.zero_le _, by simp, rfl, hz₁, ⟨old, hs₁.extBut _ _ D.TOz hTO, hold, fun m hm => by omega⟩, fun m c hc => ?_, fun c o c1 _ _ e => hs₁.extBut _ _ c1 e, hs₁.1⟩
    rw [if_neg (by omega)]
    have hcm : c ∈ zs := List.mem_of_getElem? hc
    exact (h1 c hcm).at fun o e => hs₁.extBut _ _ (D.iz hcm) e
structure ZSu (h0 : Heap) (z TI TO : Addr) (zs : List Zs) (k : Nat) (j : Nat) (h : Heap) : Prop where
  zp : IsZip h z TI TO .ellipsis
  out : ∃ cur : Array Value, IsTV h TO cur ∧ cur.size = zs.length
  its : ∀ m c, zs[m]? = some c → IsIt h c.t c.it c.l (if m < j then k + 1 else k)
  keep : ∀ c o, c ≠ z → c ≠ TO → c ∉ zits zs → h0.get? c = some o → h.get? c = some o
theorem zipN_next_end {k : Nat} {old : Array Value} {Q : Fin → Shared → Prop} (hh : A.handled = none) (D : ZApart z TI TO zs) (hn : zs ≠ []) (hz : IsZip s.heap z TI TO .none) (hTI : IsTV s.heap TI (zs.map fun c => Value.ref c.it).toArray) (hTO : IsTV s.heap TO old) (hold : old.size = zs.length) (hln : zs.length ≤ 1000)
    (h1 : ∀ c ∈ zs, IsIt s.heap c.t c.it c.l k) (h2 : ∀ c ∈ zs, ∃ xs, IsSq s.heap c.t c.l xs) (hend : ∃ (m : Nat) (c : Zs), zs[m]? = some c ∧ ∀ xs, IsSq s.heap c.t c.l xs → xs[k]? = none)
    (hE : ∀ h' e, (∀ c o, c ≠ z → c ≠ TO → c ∉ zits zs → s.heap.get? c = some o → h'.get? c = some o) → (∃ o, h'.get? e = some o ∧ o.cls = .type "StopIteration") → E (.ref e) { s with heap := h' }) :
    wpAny (model prog w) A (Builtin.«zip.__next__» ⟨[.ref z], []⟩) Q E s := by
  show wpAny _ _ (field (.ref z) 2 >>= _) _ _ _
  refine wpAny_bind (wpAny_field hz rfl (x := .bool false) rfl ?_)
  show wpAny _ _ (field (.ref z) 3 >>= _) _ _ _
  refine wpAny_bind (wpAny_field hz rfl (x := .ref TI) rfl ?_)
  refine wpAny_bind (wpAny_seqItems hTI rfl ?_)
  have hne : (zs.map fun c => Value.ref c.it).toArray.isEmpty = false := by
    cases zs with
    | nil => exact absurd rfl hn
    | cons a l => rfl
  simp only [hne, Bool.false_eq_true, if_false]
  show wpAny _ _ (Builtin.SmallTypes.ownedTupleIsFree (.ref z) >>= _) _ _ _
  refine wpAny_bind ?_
  unfold Builtin.SmallTypes.ownedTupleIsFree
  refine wpAny_bind (wpAny_field hz rfl (x := .none) rfl (wpAny_pure ?_))
  simp only [if_true]
  refine wpAny_bind (wpAny_rule ?_)
  refine wpAny_bind (wpAny_field hz rfl (x := .ref TO) rfl ?_)
  refine wpAny_bind (wpAny_setField_rec hz (by simp) fun h₁ hz₁ hs₁ => ?_)
  replace hz₁ : IsZip h₁ z TI TO .ellipsis := hz₁
  refine wpAny_bind (wpAny_forIn_list _ (fun rest b s' => b.1 = none ∧ ∃ j h, j ≤ zs.length ∧ rest = ((zs.map fun c => Value.ref c.it).zipIdx).drop j ∧ s' = { s with heap := h } ∧ ZSu s.heap z TI TO zs k j h ∧ ∃ (m : Nat) (c : Zs), j ≤ m ∧ zs[m]? = some c ∧ ∀ xs, IsSq s.heap c.t c.l xs → xs[k]? = none) _ ?_ ?_ _ _ ?_)
  · rintro x rest ⟨b1, b2⟩ s' ⟨hb, j, h, hj, hrest, rfl, st, me, ce, hme, hce, hxe⟩
    simp only at hb
    subst hb
    have hlt : j < ((zs.map fun c => Value.ref c.it).zipIdx).length := by
      apply Classical.byContradiction
      intro q
      rw [List.drop_eq_nil_of_le (by omega)] at hrest
      cases hrest
    rw [List.drop_eq_getElem_cons hlt] at hrest
    have hjz : j < zs.length := by simpa using hlt
    have hc : zs[j]? = some zs[j] := List.getElem?_eq_getElem hjz
    have hcm : zs[j] ∈ zs := List.getElem_mem hjz
    obtain ⟨hx, hrest'⟩ := List.cons.inj hrest
    clear hrest
    simp only [List.getElem_zipIdx, List.getElem_map, Nat.zero_add] at hx
    subst hx
    generalize hcc : zs[j] = c at *
    obtain ⟨xs, hsq⟩ := h2 c hcm
    have hit := st.its j c hc
    rw [if_neg (Nat.lt_irrefl _)] at hit
    have hsq' : IsSq h c.t c.l xs := hsq.at fun o e => st.keep _ o (D.lz hcm) (D.lTO hcm) (fun q => by
      obtain ⟨d, hd, e⟩ := List.mem_map.mp q
      exact D.li hcm hd e.symm) e
    obtain ⟨cur, hcur, hcs⟩ := st.out
    refine wpAny_bind (wpAny_onRaise ?_)
    show wpAny _ _ (Builtin.SmallTypes.nextOf (.ref c.it) >>= _) _ _ _
    cases hxk : xs[k]? with
    | none =>
      refine wpAny_bind (nextIt_end (s := { s with heap := h }) hh hit hsq' hxk fun h₂ e hs₂ he => ?_)
      obtain ⟨oe, hoe, hce⟩ := he
      have hz₂ : IsZip h₂ z TI TO .ellipsis := hs₂ _ _ (D.iz hcm).symm st.zp
      have hez : e ≠ z := fun x => by subst x; rw [hz₂] at hoe; cases hoe; simp at hce
      refine wpAny_setField_rec (s := { s with heap := h₂ }) hz₂ (by simp) fun h₃ _ hs₃ => hE h₃ e (fun a o n1 n2 n3 x => hs₃.extBut _ _ n1 (hs₂ _ _ (fun q => n3 (by rw [q]; exact mem_zits hcm)) (st.keep a o n1 n2 n3 x))) ⟨oe, hs₃.extBut _ _ hez hoe, hce⟩
    | some v =>
      refine wpAny_bind (nextIt_item (s := { s with heap := h }) hit hsq' hxk fun h₂ hi₂ hs₂ => wpAny_pure ?_)
      have hTO₂ : IsTV h₂ TO cur := hs₂.extBut _ _ (D.iTO hcm).symm hcur
      refine wpAny_bind (wpAny_seqItems hTO₂ rfl ?_)
      refine wpAny_bind (wpAny_updateSeq (s := { s with heap := h₂ }) hTO₂ rfl ?_ (by rw [hcs]; exact Nat.le_trans hln (by decide)) (by
        rw [Array.size_setIfInBounds, hcs]
        exact Nat.le_trans hln (by decide)))
      have hs₃ : Heap.SameBut TO h₂ (h₂.update TO (Obj.mapSeq fun x => x.setIfInBounds j v)) := Heap.SameBut.update ..
      have hTO₃ : IsTV (h₂.update TO (Obj.mapSeq fun x => x.setIfInBounds j v)) TO (cur.setIfInBounds j v) := by
        show Heap.get? _ _ = _
        rw [Heap.get?_update_self _ hTO₂ rfl]
        simp [Obj.mapSeq]
      generalize h₂.update TO (Obj.mapSeq fun x => x.setIfInBounds j v) = h₃ at *
      have hne2 : me ≠ j := fun q => by
        subst q
        rw [hc] at hce
        cases hce
        have := hxe xs hsq
        rw [hxk] at this
        cases this
      refine wpAny_bind (wpAny_letGo (wpAny_pure ⟨rfl, j + 1, h₃, by omega, hrest', rfl, ?_, me, ce, by omega, hce, hxe⟩))
      refine ⟨hs₃.extBut _ _ D.TOz.symm (hs₂.extBut _ _ (D.iz hcm).symm st.zp), ⟨_, hTO₃, by rw [Array.size_setIfInBounds, hcs]⟩, fun m d hd => ?_, fun a o n1 n2 n3 e => ?_⟩
      · have hdm : d ∈ zs := List.mem_of_getElem? hd
        by_cases e : m = j
        · subst e
          rw [hc] at hd
          cases hd
          rw [if_pos (by omega)]
          exact hi₂.at fun o q => hs₃.extBut _ _ (D.iTO hcm) q
        · have := st.its m d hd
          have e2 : (if m < j + 1 then k + 1 else k) = if m < j then k + 1 else k := by
            by_cases q : m < j
            · rw [if_pos q, if_pos (by omega)]
            · rw [if_neg q, if_neg (by omega)]
          rw [e2]
          exact this.at fun o q => hs₃.extBut _ _ (D.iTO hdm) (hs₂.extBut _ _ (D.ii hd hc e) q)
      · exact hs₃.extBut _ _ n2 (hs₂.extBut _ _ (fun q => n3 (by rw [q]; exact mem_zits hcm)) (st.keep a o n1 n2 n3 e))
  · rintro ⟨b1, b2⟩ s' ⟨hb, j, h, hj, hrest, rfl, st, me, ce, hme, hce, hxe⟩
    have hjz : j = zs.length := by
      have := congrArg List.length hrest
      simp at this
      omega
    have := (List.getElem?_eq_some_iff.mp hce).1
    omega
  · obtain ⟨me, ce, hce, hxe⟩ := hend
    refine ⟨rfl, 0, h₁, Nat.zero_le _, by simp, rfl, ⟨hz₁, ⟨old, hs₁.extBut _ _ D.TOz hTO, hold⟩, fun m c hc => ?_, fun c o c1 _ _ e => hs₁.extBut _ _ c1 e⟩, me, ce, Nat.zero_le _, hce, hxe⟩
    rw [if_neg (by omega)]
    have hcm : c ∈ zs := List.mem_of_getElem? hc
    exact (h1 c hcm).at fun o e => hs₁.extBut _ _ (D.iz hcm) e
theorem pyNext_zipN_item {k : Nat} {vs : List Value} {old : Array Value} {Q : Option Value → Shared → Prop} (D : ZApart z TI TO zs) (hn : zs ≠ []) (hz : IsZip s.heap z TI TO .none) (hTI : IsTV s.heap TI (zs.map fun c => Value.ref c.it).toArray) (hTO : IsTV s.heap TO old) (hold : old.size = zs.length) (hln : zs.length ≤ 1000)
    (h1 : ∀ c ∈ zs, IsIt s.heap c.t c.it c.l k) (hlen : vs.length = zs.length) (h2 : ∀ (m : Nat) (c : Zs) (v : Value), zs[m]? = some c → vs[m]? = some v → ∃ xs, IsSq s.heap c.t c.l xs ∧ xs[k]? = some v)
    (hQ : ∀ h', IsZip h' z TI TO (rawInt s.heap.objs.size) → IsTV h' TO vs.toArray → (∀ c ∈ zs, IsIt h' c.t c.it c.l (k + 1)) → IsTV h' s.heap.objs.size vs.toArray → h'.objs.size = s.heap.objs.size + 1 →
      (∀ c o, c ≠ z → c ≠ TO → c ∉ zits zs → s.heap.get? c = some o → h'.get? c = some o) → Q (some (.ref s.heap.objs.size)) { s with heap := h' }) :
    wpAny (model prog w) A (pyNext (.ref z)) Q E s := by
  have hT : s.TypeIs (.ref z) "zip" := ⟨_, hz, rfl⟩
  unfold pyNext
  exact wpAny_bind (wpAny_attempt (wpAny_callSpecial?_slot (name := Str.ofString "__next__") hT F.slot_zip_next
    (wpAny_call_entry F.slot_zip_next hT F.entry_zip_next
      (zipN_next_item D hn hz hTI hTO hold hln h1 hlen h2 fun h' a1 a2 a3 a4 a5 a6 => wpAny_pure (hQ h' a1 a2 a3 a4 a5 a6)) (F.args_zip_next_1 _))))
theorem pyNext_zipN_end {k : Nat} {old : Array Value} {Q : Option Value → Shared → Prop} (hh : A.handled = none) (D : ZApart z TI TO zs) (hn : zs ≠ []) (hz : IsZip s.heap z TI TO .none) (hTI : IsTV s.heap TI (zs.map fun c => Value.ref c.it).toArray) (hTO : IsTV s.heap TO old) (hold : old.size = zs.length) (hln : zs.length ≤ 1000)
    (h1 : ∀ c ∈ zs, IsIt s.heap c.t c.it c.l k) (h2 : ∀ c ∈ zs, ∃ xs, IsSq s.heap c.t c.l xs) (hend : ∃ (m : Nat) (c : Zs), zs[m]? = some c ∧ ∀ xs, IsSq s.heap c.t c.l xs → xs[k]? = none)
    (hQ : ∀ h', (∀ c o, c ≠ z → c ≠ TO → c ∉ zits zs → s.heap.get? c = some o → h'.get? c = some o) → Q none { s with heap := h' }) : wpAny (model prog w) A (pyNext (.ref z)) Q E s := by
  have hT : s.TypeIs (.ref z) "zip" := ⟨_, hz, rfl⟩
  unfold pyNext
  refine wpAny_bind (wpAny_attempt (wpAny_callSpecial?_slot (name := Str.ofString "__next__") hT F.slot_zip_next
    (wpAny_call_entry F.slot_zip_next hT F.entry_zip_next (zipN_next_end hh D hn hz hTI hTO hold hln h1 h2 hend fun h' e hk he => ?_) (F.args_zip_next_1 _))))
  obtain ⟨o, ho, hc⟩ := he
  refine wpAny_bind (wpAny_isInstance (T := "StopIteration") (b := true) ⟨o, ho, hc⟩ isSubtype_stop ?_)
  exact wpAny_pure (hQ _ hk)
end
/-! the walk -/
def Sq2 (K : PySem.W.Frag) (H : Hp) (t : Bool) (a : Addr) (xs : List V) : Prop := if t = true then SqT K H a xs else SqL K H a xs
def ItzN (K : PySem.W.Frag) (cs : List (Bool × Addr)) : It :=
  ⟨fun i H => ∀ c ∈ cs, ∃ xs x, Sq2 K H c.1 c.2 xs ∧ xs[i]? = some x,
    fun i H v H' => ∃ T vs, v = .ref T ∧ H T = none ∧ H' = upd H T (.tup vs) ∧ vs.length = cs.length ∧ ∀ (m : Nat) c x, cs[m]? = some c → vs[m]? = some x → ∀ xs, Sq2 K H c.1 c.2 xs → xs[i]? = some x,
    fun i H => (∀ c ∈ cs, ∃ xs, Sq2 K H c.1 c.2 xs) ∧ ∃ c ∈ cs, ∃ xs, Sq2 K H c.1 c.2 xs ∧ xs.length ≤ i⟩

theorem inv_sq {X : Cx} {pins : List (Addr × Obj)} {σ : L2.St} {H : Hp} {s : Shared} (I : Inv X pins σ H s) {t : Bool} {a : Addr} {xs : List V} (h : Sq2 X.K H t a xs) : ∃ its : List Value, Vals xs its ∧ IsSq s.heap t a its.toArray := by
  cases t
  · obtain ⟨its, rv, p, _⟩ := I.list h
    exact ⟨its, rv, p.isList⟩
  · obtain ⟨its, rv, p, _⟩ := I.tuple h
    exact ⟨its, rv, p⟩
theorem inv_sq_inj {X : Cx} {pins : List (Addr × Obj)} {σ : L2.St} {H : Hp} {s : Shared} (I : Inv X pins σ H s) {t : Bool} {a : Addr} {xs ys : List V} (h : Sq2 X.K H t a xs) (k : Sq2 X.K H t a ys) : xs = ys := by
  cases t
  · exact I.list_inj h k
  · exact I.tuple_inj h k
theorem isSq_inj {h : Heap} {t : Bool} {l : Addr} {xs ys : Array Value} (a : IsSq h t l xs) (b : IsSq h t l ys) : xs = ys := by
  cases t
  · obtain ⟨o, e, _, n, d⟩ := a
    obtain ⟨o', e', _, n', d'⟩ := b
    rw [e] at e'; cases e'
    rw [d] at d'
    injection d'
  · obtain ⟨o, e, _, n, d⟩ := a
    obtain ⟨o', e', _, n', d'⟩ := b
    rw [e] at e'; cases e'
    rw [d] at d'
    injection d'
def zcs (zs : List Zs) : List (Bool × Addr) := zs.map fun c => (c.t, c.l)
theorem turn_vals {X : Cx} {pins : List (Addr × Obj)} {σ : L2.St} {H : Hp} {s : Shared} (I : Inv X pins σ H s) (i : Nat) : ∀ zs : List Zs, (∀ c ∈ zcs zs, ∃ xs x, Sq2 X.K H c.1 c.2 xs ∧ xs[i]? = some x) →
    ∃ vs us, Vals vs us ∧ us.length = zs.length ∧ vs.length = zs.length ∧ ∀ (m : Nat) (c : Zs) (u : Value) (x : V), zs[m]? = some c → us[m]? = some u → vs[m]? = some x → ∃ xs, (IsSq s.heap c.t c.l xs ∧ xs[i]? = some u) ∧ ∃ ys, Sq2 X.K H c.t c.l ys ∧ ys[i]? = some x
  | [], _ => ⟨[], [], .nil, rfl, rfl, fun m c u x h => by simp at h⟩
  | c :: zs, h => by
    obtain ⟨vs, us, r, l1, l2, k⟩ := turn_vals I i zs fun d hd => h d (List.mem_cons_of_mem _ hd)
    obtain ⟨xs, x, hs, hx⟩ := h (c.t, c.l) List.mem_cons_self
    obtain ⟨its, rv, p⟩ := inv_sq I hs
    obtain ⟨u, hu, ru⟩ := rv.get hx
    refine ⟨x :: vs, u :: us, .cons ru r, by simp [l1], by simp [l2], fun m d v y hm hv hy => ?_⟩
    cases m with
    | zero =>
      simp at hm hv hy
      subst hm hv hy
      exact ⟨its.toArray, ⟨p, by simpa using hu⟩, xs, hs, hx⟩
    | succ m => exact k m d v y (by simpa using hm) (by simpa using hv) (by simpa using hy)
theorem turn_zipN {P : Program} {w : World} {K : PySem.W.Frag} {elts : List Expr} {kk : Nat} {tpos : Pos} {z TI TO : Addr} {zs : List Zs} (D : ZApart z TI TO zs) (hn : zs ≠ []) (hln : zs.length ≤ 1000) :
    Turn P w K (.Tuple elts kk tpos) (ItzN K (zcs zs)) (z :: TI :: TO :: zits zs) z (fun i h => IsZip h z TI TO .none ∧ IsTV h TI (zs.map fun c => Value.ref c.it).toArray ∧ (∃ old, IsTV h TO old ∧ old.size = zs.length) ∧ ∀ c ∈ zs, IsIt h c.t c.it c.l i) where
  mem := List.mem_cons_self
  obj := fun i h st c hc => by
    obtain ⟨hz, hTI, ⟨old, hTO, _⟩, h1⟩ := st
    rcases List.mem_cons.mp hc with q | hc
    · rw [q]; exact ⟨_, hz, fun v q => nomatch q⟩
    rcases List.mem_cons.mp hc with q | hc
    · rw [q]; exact ⟨_, hTI, fun v q => nomatch q⟩
    rcases List.mem_cons.mp hc with q | hc
    · rw [q]; exact ⟨_, hTO, fun v q => nomatch q⟩
    obtain ⟨d, hd, rfl⟩ := List.mem_map.mp hc
    exact (h1 d hd).there
  keep := fun i h h' st k => by
    obtain ⟨hz, hTI, ⟨old, hTO, ho⟩, h1⟩ := st
    exact ⟨k z (by simp) _ hz, k TI (by simp) _ hTI, ⟨old, k TO (by simp) _ hTO, ho⟩, fun c hc => (h1 c hc).at fun o q => k c.it (List.mem_cons_of_mem _ (List.mem_cons_of_mem _ (List.mem_cons_of_mem _ (mem_zits hc)))) o q⟩
  item := by
    intro X hP hw hK hc i pins s σ H E I hf st hg
    subst hP hw hK
    obtain ⟨hz, hTI, ⟨old, hTO, ho⟩, h1⟩ := st
    obtain ⟨vs, us, rv, l1, l2, hv⟩ := turn_vals I i zs hg
    have hzl : z < s.heap.objs.size := Heap.lt_size hz
    have get : ∀ (m : Nat) (c : Zs), zs[m]? = some c → ∃ x, vs[m]? = some x := fun m c h => ⟨_, List.getElem?_eq_getElem (by have := (List.getElem?_eq_some_iff.mp h).1; omega)⟩
    refine pyNext_zipN_item D hn hz hTI hTO ho hln h1 l1 (fun m c u hm hu => by
      obtain ⟨x, hx⟩ := get m c hm
      obtain ⟨xs, q, _⟩ := hv m c u x hm hu hx
      exact ⟨xs, q⟩) fun h' z' TO' h1' hT hsz hk => ?_
    refine ⟨_, rfl, wpAny_letOwnedTupleGo_zip (s := { s with heap := h' }) z' fun h'' z'' sb => ?_⟩
    have hT2 : IsTV h'' s.heap.objs.size us.toArray := (sb.2 _ (Nat.ne_of_gt hzl)).trans hT
    have new : ObjOk X.prog X.w (upd H s.heap.objs.size (.tup vs)) h'' s.heap.objs.size (.tup vs) :=
      ⟨by rw [l2]; exact Nat.le_trans hln (by decide), us, rv, ⟨_, hT2, rfl, _, rfl⟩⟩
    have nz : ∀ c, c ∉ z :: TI :: TO :: zits zs → c ≠ z ∧ c ≠ TO ∧ c ∉ zits zs := fun c h => ⟨fun q => h (by rw [q]; simp), fun q => h (by rw [q]; simp), fun q => h (List.mem_cons_of_mem _ (List.mem_cons_of_mem _ (List.mem_cons_of_mem _ q)))⟩
    have I1 : Inv X pins σ (upd H s.heap.objs.size (.tup vs)) { s with heap := h'' } :=
      I.turnedNew (t' := s.toks) (ch := z :: TI :: TO :: zits zs) (fun c o hb q => (sb.2 c (nz c hb).1).trans (hk c o (nz c hb).1 (nz c hb).2.1 (nz c hb).2.2 q)) hf (Nat.le_refl _) new
    have TIi : TI ∉ zits zs := fun q => by
      obtain ⟨d, hd, e⟩ := List.mem_map.mp q
      exact D.iTI hd e
    refine ⟨.ref s.heap.objs.size, _, I1, rfl, ⟨_, vs, rfl, I.hok.fresh (Nat.le_refl _), rfl, by rw [l2]; simp [zcs], fun m c x hm hx xs hs => ?_⟩, ⟨z'', ?_, ⟨us.toArray, ?_, by simp [l1]⟩, fun c hc => ?_⟩, fun c hcm => ?_⟩
    · rw [zcs, List.getElem?_map] at hm
      obtain ⟨d, hd, rfl⟩ := Option.map_eq_some_iff.mp hm
      have hu : us[m]? = some (us[m]'(by have := (List.getElem?_eq_some_iff.mp hd).1; omega)) := List.getElem?_eq_getElem _
      obtain ⟨_, _, ys, hys, hyx⟩ := hv m d _ x hd hu hx
      rw [inv_sq_inj I hs hys]
      exact hyx
    · exact (sb.2 _ D.TIz).trans (hk _ _ D.TIz D.TITO TIi hTI)
    · exact (sb.2 _ D.TOz).trans TO'
    · exact (h1' c hc).at fun o q => (sb.2 _ (D.iz hc)).trans q
    · have hlt : c < s.heap.objs.size := by
        rcases List.mem_cons.mp hcm with q | hcm
        · rw [q]; exact hzl
        rcases List.mem_cons.mp hcm with q | hcm
        · rw [q]; exact Heap.lt_size hTI
        rcases List.mem_cons.mp hcm with q | hcm
        · rw [q]; exact Heap.lt_size hTO
        obtain ⟨d, hd, rfl⟩ := List.mem_map.mp hcm
        obtain ⟨o, e, _⟩ := (h1 d hd).there
        exact Heap.lt_size e
      rw [upd_ne (Nat.ne_of_lt hlt)]
      exact (hf c hcm).1
  done := by
    intro X hP hw hK hc i pins s σ H E I hf st hg
    subst hP hw hK
    obtain ⟨hz, hTI, ⟨old, hTO, ho⟩, h1⟩ := st
    obtain ⟨hall, c, hcm, xs, hs, hle⟩ := hg
    obtain ⟨d, hd, rfl⟩ := List.mem_map.mp hcm
    obtain ⟨m, hm⟩ := List.getElem?_of_mem hd
    have nz : ∀ c, c ∉ z :: TI :: TO :: zits zs → c ≠ z ∧ c ≠ TO ∧ c ∉ zits zs := fun c h => ⟨fun q => h (by rw [q]; simp), fun q => h (by rw [q]; simp), fun q => h (List.mem_cons_of_mem _ (List.mem_cons_of_mem _ (List.mem_cons_of_mem _ q)))⟩
    obtain ⟨its, rv, p⟩ := inv_sq I hs
    refine pyNext_zipN_end (I.ok.hd hc) D hn hz hTI hTO ho hln h1 (fun c hc => by
      obtain ⟨ys, hys⟩ := hall (c.t, c.l) (List.mem_map.mpr ⟨c, hc, rfl⟩)
      obtain ⟨its, _, p⟩ := inv_sq I hys
      exact ⟨_, p⟩) ⟨m, d, hm, fun ys hy => by
      rw [isSq_inj hy p]
      have := rv.length
      simp
      omega⟩ fun h' hk => ⟨rfl, I.turnedL (t' := s.toks) (ch := z :: TI :: TO :: zits zs) (fun c o hb q => hk c o (nz c hb).1 (nz c hb).2.1 (nz c hb).2.2 q) hf⟩
  self := fun A i s Q E st h => wpAny_pyIter_zip st.1 h
def itObj (t : Bool) (l : Addr) : Obj := if t = true then { cls := .type "tuple_iterator", data := .fields #[.ref l, .int 0 0] } else { cls := .type "list_iterator", data := .fields #[.ref l, .int 0 0] }
theorem itObj_is {h : Heap} {t : Bool} {it l : Addr} (e : h.get? it = some (itObj t l)) : IsIt h t it l 0 := by
  cases t
  · exact ⟨_, e, rfl, rfl⟩
  · exact ⟨_, e, rfl, rfl⟩
theorem itObj_fr (t : Bool) (l : Addr) : (itObj t l).isFreed = false := by cases t <;> rfl
section
variable {prog : Program} {w : World} {A : Around} {E : Value → Shared → Prop} {s : Shared}
theorem pyIter_sq {t : Bool} {l : Addr} {xs : Array Value} {Q : Value → Shared → Prop} (hl : IsSq s.heap t l xs) (hQ : Q (.ref s.heap.objs.size) { s with heap := s.heap.push (itObj t l) }) : wpAny (model prog w) A (pyIter (.ref l)) Q E s := by
  cases t
  · exact wpAny_pyIter_list hl hQ
  · exact wpAny_pyIter_tuple hl hQ
end
theorem IsSq.push {h : Heap} {t : Bool} {l : Addr} {xs : Array Value} (x : IsSq h t l xs) (o : Obj) : IsSq (h.push o) t l xs := x.at fun _ e => Heap.get?_push_of_some _ e

abbrev zh2_0 (h : Heap) (t1 : Bool) (l1 : Addr) (t2 : Bool) (l2 : Addr) : Heap := h
abbrev zh2_1 (h : Heap) (t1 : Bool) (l1 : Addr) (t2 : Bool) (l2 : Addr) : Heap := (zh2_0 h t1 l1 t2 l2).push (itObj t1 l1)
abbrev zh2_2 (h : Heap) (t1 : Bool) (l1 : Addr) (t2 : Bool) (l2 : Addr) : Heap := (zh2_1 h t1 l1 t2 l2).push (itObj t2 l2)
abbrev zh2_3 (h : Heap) (t1 : Bool) (l1 : Addr) (t2 : Bool) (l2 : Addr) : Heap := (zh2_2 h t1 l1 t2 l2).push { cls := .type "tuple", data := .seq #[.ref (zh2_0 h t1 l1 t2 l2).objs.size, .ref (zh2_1 h t1 l1 t2 l2).objs.size] }
abbrev zh2_4 (h : Heap) (t1 : Bool) (l1 : Addr) (t2 : Bool) (l2 : Addr) : Heap := (zh2_3 h t1 l1 t2 l2).push { cls := .type "tuple", data := .seq #[.none, .none] }
abbrev zh2_5 (h : Heap) (t1 : Bool) (l1 : Addr) (t2 : Bool) (l2 : Addr) : Heap := (zh2_4 h t1 l1 t2 l2).push { cls := .type "zip", data := .fields #[.none, .bool false, .bool false, .ref (zh2_2 h t1 l1 t2 l2).objs.size, .ref (zh2_3 h t1 l1 t2 l2).objs.size] }
theorem meets_zipN_2 (t1 t2 : Bool) (l1 l2 : Addr) (x1 x2 : Array Value) :
    Meets (Builtin.«zip.__new__» ⟨[.type "zip", .ref l1, .ref l2], []⟩) (fun _ R s => IsSq s.heap t1 l1 x1 ∧ IsSq s.heap t2 l2 x2 ∧
      R (.ok (.ret (.ref (zh2_4 s.heap t1 l1 t2 l2).objs.size))) { s with heap := zh2_5 s.heap t1 l1 t2 l2 }) :=
  .of_wp fun prog w A R s h => by
    obtain ⟨hp, g, d, tk, os⟩ := s; obtain ⟨k1, k2, h⟩ := h
    have hsub := sub_zip
    have K1 : IsSq (Shared.heap ⟨zh2_0 hp t1 l1 t2 l2, g, d, tk, os⟩) t1 l1 x1 := k1
    have K2 : IsSq (Shared.heap ⟨zh2_1 hp t1 l1 t2 l2, g, d, tk, os⟩) t2 l2 x2 := (k2.push _)
    wp_walk using pyIter_sq K1, pyIter_sq K2
    exact ⟨_, rfl, h⟩
section
variable {prog : Program} {w : World} {A : Around} {E : Value → Shared → Prop} {s : Shared}
theorem call_zipN_2 {t1 t2 : Bool} {l1 l2 : Addr} {x1 x2 : Array Value} {Q : Value → Shared → Prop} (k1 : IsSq s.heap t1 l1 x1) (k2 : IsSq s.heap t2 l2 x2)
    (h : ∀ h', IsZip h' (s.heap.objs.size + 4) (s.heap.objs.size + 2) (s.heap.objs.size + 3) .none → IsTV h' (s.heap.objs.size + 2) (([⟨t1, s.heap.objs.size, l1⟩, ⟨t2, s.heap.objs.size + 1, l2⟩] : List Zs).map fun c => Value.ref c.it).toArray → IsTV h' (s.heap.objs.size + 3) #[.none, .none] → (∀ c ∈ ([⟨t1, s.heap.objs.size, l1⟩, ⟨t2, s.heap.objs.size + 1, l2⟩] : List Zs), IsIt h' c.t c.it c.l 0) →
      (∀ c o, s.heap.get? c = some o → h'.get? c = some o) → Q (.ref (s.heap.objs.size + 4)) { s with heap := h' }) :
    wpAny (model prog w) A (call (.type "zip") [.ref l1, .ref l2]) Q E s := by
  refine callType_new F.called_zip (by decide) (F.typeCall_zip_2 _ _) (F.newCall_zip_2 _ _) (fun obj => F.args_object_init_3 obj _ _) F.entry_zip_new
    (meets_zipN_2 t1 t2 l1 l2 x1 x2) ⟨k1, k2, ?_⟩
  have z1 : (zh2_1 s.heap t1 l1 t2 l2).objs.size = s.heap.objs.size + 1 := Heap.size_push ..
  have z2 : (zh2_2 s.heap t1 l1 t2 l2).objs.size = s.heap.objs.size + 2 := by rw [Heap.size_push, z1]
  have z3 : (zh2_3 s.heap t1 l1 t2 l2).objs.size = s.heap.objs.size + 3 := by rw [Heap.size_push, z2]
  have z4 : (zh2_4 s.heap t1 l1 t2 l2).objs.size = s.heap.objs.size + 4 := by rw [Heap.size_push, z3]
  have g1 : (zh2_5 s.heap t1 l1 t2 l2).get? (zh2_0 s.heap t1 l1 t2 l2).objs.size = some _ := Heap.get?_push_of_some _ (Heap.get?_push_of_some _ (Heap.get?_push_of_some _ (Heap.get?_push_of_some _ (Heap.get?_push_size _ (itObj_fr _ _)))))
  have g2 : (zh2_5 s.heap t1 l1 t2 l2).get? (zh2_1 s.heap t1 l1 t2 l2).objs.size = some _ := Heap.get?_push_of_some _ (Heap.get?_push_of_some _ (Heap.get?_push_of_some _ (Heap.get?_push_size _ (itObj_fr _ _))))
  have g3 : (zh2_5 s.heap t1 l1 t2 l2).get? (zh2_2 s.heap t1 l1 t2 l2).objs.size = some _ := Heap.get?_push_of_some _ (Heap.get?_push_of_some _ (Heap.get?_push_size _ rfl))
  have g4 : (zh2_5 s.heap t1 l1 t2 l2).get? (zh2_3 s.heap t1 l1 t2 l2).objs.size = some _ := Heap.get?_push_of_some _ (Heap.get?_push_size _ rfl)
  have g5 : (zh2_5 s.heap t1 l1 t2 l2).get? (zh2_4 s.heap t1 l1 t2 l2).objs.size = some _ := Heap.get?_push_size _ rfl
  show _ ∧ _
  rw [z1] at g2
  rw [z1, z2] at g3
  rw [z3] at g4
  rw [z2, z3, z4] at g5
  rw [z4]
  refine ⟨⟨_, g5, rfl⟩, h _ g5 g3 g4 (fun c hc => ?_) fun c o x => Heap.get?_push_of_some _ (Heap.get?_push_of_some _ (Heap.get?_push_of_some _ (Heap.get?_push_of_some _ (Heap.get?_push_of_some _ (x)))))⟩
  simp only [List.mem_cons, List.not_mem_nil, or_false] at hc
  rcases hc with rfl | rfl
  · exact itObj_is g1
  · exact itObj_is g2
end
theorem typeCall_zip_3 (v1 v2 v3 : Value) : checkTypeCall "zip" ⟨[v1, v2, v3], []⟩ = pure () := by kernel_rfl
theorem newCall_zip_3 (v1 v2 v3 : Value) : checkBuiltinCall "zip.__new__" ⟨[.type "zip", v1, v2, v3], []⟩ = pure () := by kernel_rfl
theorem args_object_init_4 (a v1 v2 v3 : Value) : argsOk "object.__init__" ⟨[a, v1, v2, v3], []⟩ := by
  unfold argsOk; rw [signature?_of (id := "object.__init__") (n := ['_', '_', 't', 'i', 'n', 'i', '_', '_']) (o := ['t', 'c', 'e', 'j', 'b', 'o']) (by kernel_rfl) F.owner_object]; kernel_rfl
abbrev zh3_0 (h : Heap) (t1 : Bool) (l1 : Addr) (t2 : Bool) (l2 : Addr) (t3 : Bool) (l3 : Addr) : Heap := h
abbrev zh3_1 (h : Heap) (t1 : Bool) (l1 : Addr) (t2 : Bool) (l2 : Addr) (t3 : Bool) (l3 : Addr) : Heap := (zh3_0 h t1 l1 t2 l2 t3 l3).push (itObj t1 l1)
abbrev zh3_2 (h : Heap) (t1 : Bool) (l1 : Addr) (t2 : Bool) (l2 : Addr) (t3 : Bool) (l3 : Addr) : Heap := (zh3_1 h t1 l1 t2 l2 t3 l3).push (itObj t2 l2)
abbrev zh3_3 (h : Heap) (t1 : Bool) (l1 : Addr) (t2 : Bool) (l2 : Addr) (t3 : Bool) (l3 : Addr) : Heap := (zh3_2 h t1 l1 t2 l2 t3 l3).push (itObj t3 l3)
abbrev zh3_4 (h : Heap) (t1 : Bool) (l1 : Addr) (t2 : Bool) (l2 : Addr) (t3 : Bool) (l3 : Addr) : Heap := (zh3_3 h t1 l1 t2 l2 t3 l3).push { cls := .type "tuple", data := .seq #[.ref (zh3_0 h t1 l1 t2 l2 t3 l3).objs.size, .ref (zh3_1 h t1 l1 t2 l2 t3 l3).objs.size, .ref (zh3_2 h t1 l1 t2 l2 t3 l3).objs.size] }
abbrev zh3_5 (h : Heap) (t1 : Bool) (l1 : Addr) (t2 : Bool) (l2 : Addr) (t3 : Bool) (l3 : Addr) : Heap := (zh3_4 h t1 l1 t2 l2 t3 l3).push { cls := .type "tuple", data := .seq #[.none, .none, .none] }
abbrev zh3_6 (h : Heap) (t1 : Bool) (l1 : Addr) (t2 : Bool) (l2 : Addr) (t3 : Bool) (l3 : Addr) : Heap := (zh3_5 h t1 l1 t2 l2 t3 l3).push { cls := .type "zip", data := .fields #[.none, .bool false, .bool false, .ref (zh3_3 h t1 l1 t2 l2 t3 l3).objs.size, .ref (zh3_4 h t1 l1 t2 l2 t3 l3).objs.size] }
theorem meets_zipN_3 (t1 t2 t3 : Bool) (l1 l2 l3 : Addr) (x1 x2 x3 : Array Value) :
    Meets (Builtin.«zip.__new__» ⟨[.type "zip", .ref l1, .ref l2, .ref l3], []⟩) (fun _ R s => IsSq s.heap t1 l1 x1 ∧ IsSq s.heap t2 l2 x2 ∧ IsSq s.heap t3 l3 x3 ∧
      R (.ok (.ret (.ref (zh3_5 s.heap t1 l1 t2 l2 t3 l3).objs.size))) { s with heap := zh3_6 s.heap t1 l1 t2 l2 t3 l3 }) :=
  .of_wp fun prog w A R s h => by
    obtain ⟨hp, g, d, tk, os⟩ := s; obtain ⟨k1, k2, k3, h⟩ := h
    have hsub := sub_zip
    have K1 : IsSq (Shared.heap ⟨zh3_0 hp t1 l1 t2 l2 t3 l3, g, d, tk, os⟩) t1 l1 x1 := k1
    have K2 : IsSq (Shared.heap ⟨zh3_1 hp t1 l1 t2 l2 t3 l3, g, d, tk, os⟩) t2 l2 x2 := (k2.push _)
    have K3 : IsSq (Shared.heap ⟨zh3_2 hp t1 l1 t2 l2 t3 l3, g, d, tk, os⟩) t3 l3 x3 := ((k3.push _).push _)
    wp_walk using pyIter_sq K1, pyIter_sq K2, pyIter_sq K3
    exact ⟨_, rfl, h⟩
section
variable {prog : Program} {w : World} {A : Around} {E : Value → Shared → Prop} {s : Shared}
theorem call_zipN_3 {t1 t2 t3 : Bool} {l1 l2 l3 : Addr} {x1 x2 x3 : Array Value} {Q : Value → Shared → Prop} (k1 : IsSq s.heap t1 l1 x1) (k2 : IsSq s.heap t2 l2 x2) (k3 : IsSq s.heap t3 l3 x3)
    (h : ∀ h', IsZip h' (s.heap.objs.size + 5) (s.heap.objs.size + 3) (s.heap.objs.size + 4) .none → IsTV h' (s.heap.objs.size + 3) (([⟨t1, s.heap.objs.size, l1⟩, ⟨t2, s.heap.objs.size + 1, l2⟩, ⟨t3, s.heap.objs.size + 2, l3⟩] : List Zs).map fun c => Value.ref c.it).toArray → IsTV h' (s.heap.objs.size + 4) #[.none, .none, .none] → (∀ c ∈ ([⟨t1, s.heap.objs.size, l1⟩, ⟨t2, s.heap.objs.size + 1, l2⟩, ⟨t3, s.heap.objs.size + 2, l3⟩] : List Zs), IsIt h' c.t c.it c.l 0) →
      (∀ c o, s.heap.get? c = some o → h'.get? c = some o) → Q (.ref (s.heap.objs.size + 5)) { s with heap := h' }) :
    wpAny (model prog w) A (call (.type "zip") [.ref l1, .ref l2, .ref l3]) Q E s := by
  refine callType_new F.called_zip (by decide) (typeCall_zip_3 _ _ _) (newCall_zip_3 _ _ _) (fun obj => args_object_init_4 obj _ _ _) F.entry_zip_new
    (meets_zipN_3 t1 t2 t3 l1 l2 l3 x1 x2 x3) ⟨k1, k2, k3, ?_⟩
  have z1 : (zh3_1 s.heap t1 l1 t2 l2 t3 l3).objs.size = s.heap.objs.size + 1 := Heap.size_push ..
  have z2 : (zh3_2 s.heap t1 l1 t2 l2 t3 l3).objs.size = s.heap.objs.size + 2 := by rw [Heap.size_push, z1]
  have z3 : (zh3_3 s.heap t1 l1 t2 l2 t3 l3).objs.size = s.heap.objs.size + 3 := by rw [Heap.size_push, z2]
  have z4 : (zh3_4 s.heap t1 l1 t2 l2 t3 l3).objs.size = s.heap.objs.size + 4 := by rw [Heap.size_push, z3]
  have z5 : (zh3_5 s.heap t1 l1 t2 l2 t3 l3).objs.size = s.heap.objs.size + 5 := by rw [Heap.size_push, z4]
  have g1 : (zh3_6 s.heap t1 l1 t2 l2 t3 l3).get? (zh3_0 s.heap t1 l1 t2 l2 t3 l3).objs.size = some _ := Heap.get?_push_of_some _ (Heap.get?_push_of_some _ (Heap.get?_push_of_some _ (Heap.get?_push_of_some _ (Heap.get?_push_of_some _ (Heap.get?_push_size _ (itObj_fr _ _))))))
  have g2 : (zh3_6 s.heap t1 l1 t2 l2 t3 l3).get? (zh3_1 s.heap t1 l1 t2 l2 t3 l3).objs.size = some _ := Heap.get?_push_of_some _ (Heap.get?_push_of_some _ (Heap.get?_push_of_some _ (Heap.get?_push_of_some _ (Heap.get?_push_size _ (itObj_fr _ _)))))
  have g3 : (zh3_6 s.heap t1 l1 t2 l2 t3 l3).get? (zh3_2 s.heap t1 l1 t2 l2 t3 l3).objs.size = some _ := Heap.get?_push_of_some _ (Heap.get?_push_of_some _ (Heap.get?_push_of_some _ (Heap.get?_push_size _ (itObj_fr _ _))))
  have g4 : (zh3_6 s.heap t1 l1 t2 l2 t3 l3).get? (zh3_3 s.heap t1 l1 t2 l2 t3 l3).objs.size = some _ := Heap.get?_push_of_some _ (Heap.get?_push_of_some _ (Heap.get?_push_size _ rfl))
  have g5 : (zh3_6 s.heap t1 l1 t2 l2 t3 l3).get? (zh3_4 s.heap t1 l1 t2 l2 t3 l3).objs.size = some _ := Heap.get?_push_of_some _ (Heap.get?_push_size _ rfl)
  have g6 : (zh3_6 s.heap t1 l1 t2 l2 t3 l3).get? (zh3_5 s.heap t1 l1 t2 l2 t3 l3).objs.size = some _ := Heap.get?_push_size _ rfl
  show _ ∧ _
  rw [z1] at g2
  rw [z2] at g3
  rw [z1, z2, z3] at g4
  rw [z4] at g5
  rw [z3, z4, z5] at g6
  rw [z5]
  refine ⟨⟨_, g6, rfl⟩, h _ g6 g4 g5 (fun c hc => ?_) fun c o x => Heap.get?_push_of_some _ (Heap.get?_push_of_some _ (Heap.get?_push_of_some _ (Heap.get?_push_of_some _ (Heap.get?_push_of_some _ (Heap.get?_push_of_some _ (x))))))⟩
  simp only [List.mem_cons, List.not_mem_nil, or_false] at hc
  rcases hc with rfl | rfl | rfl
  · exact itObj_is g1
  · exact itObj_is g2
  · exact itObj_is g3
end
theorem typeCall_zip_4 (v1 v2 v3 v4 : Value) : checkTypeCall "zip" ⟨[v1, v2, v3, v4], []⟩ = pure () := by kernel_rfl
theorem newCall_zip_4 (v1 v2 v3 v4 : Value) : checkBuiltinCall "zip.__new__" ⟨[.type "zip", v1, v2, v3, v4], []⟩ = pure () := by kernel_rfl
theorem args_object_init_5 (a v1 v2 v3 v4 : Value) : argsOk "object.__init__" ⟨[a, v1, v2, v3, v4], []⟩ := by
  unfold argsOk; rw [signature?_of (id := "object.__init__") (n := ['_', '_', 't', 'i', 'n', 'i', '_', '_']) (o := ['t', 'c', 'e', 'j', 'b', 'o']) (by kernel_rfl) F.owner_object]; kernel_rfl
abbrev zh4_0 (h : Heap) (t1 : Bool) (l1 : Addr) (t2 : Bool) (l2 : Addr) (t3 : Bool) (l3 : Addr) (t4 : Bool) (l4 : Addr) : Heap := h
abbrev zh4_1 (h : Heap) (t1 : Bool) (l1 : Addr) (t2 : Bool) (l2 : Addr) (t3 : Bool) (l3 : Addr) (t4 : Bool) (l4 : Addr) : Heap := (zh4_0 h t1 l1 t2 l2 t3 l3 t4 l4).push (itObj t1 l1)
abbrev zh4_2 (h : Heap) (t1 : Bool) (l1 : Addr) (t2 : Bool) (l2 : Addr) (t3 : Bool) (l3 : Addr) (t4 : Bool) (l4 : Addr) : Heap := (zh4_1 h t1 l1 t2 l2 t3 l3 t4 l4).push (itObj t2 l2)
abbrev zh4_3 (h : Heap) (t1 : Bool) (l1 : Addr) (t2 : Bool) (l2 : Addr) (t3 : Bool) (l3 : Addr) (t4 : Bool) (l4 : Addr) : Heap := (zh4_2 h t1 l1 t2 l2 t3 l3 t4 l4).push (itObj t3 l3)
abbrev zh4_4 (h : Heap) (t1 : Bool) (l1 : Addr) (t2 : Bool) (l2 : Addr) (t3 : Bool) (l3 : Addr) (t4 : Bool) (l4 : Addr) : Heap := (zh4_3 h t1 l1 t2 l2 t3 l3 t4 l4).push (itObj t4 l4)
abbrev zh4_5 (h : Heap) (t1 : Bool) (l1 : Addr) (t2 : Bool) (l2 : Addr) (t3 : Bool) (l3 : Addr) (t4 : Bool) (l4 : Addr) : Heap := (zh4_4 h t1 l1 t2 l2 t3 l3 t4 l4).push { cls := .type "tuple", data := .seq #[.ref (zh4_0 h t1 l1 t2 l2 t3 l3 t4 l4).objs.size, .ref (zh4_1 h t1 l1 t2 l2 t3 l3 t4 l4).objs.size, .ref (zh4_2 h t1 l1 t2 l2 t3 l3 t4 l4).objs.size, .ref (zh4_3 h t1 l1 t2 l2 t3 l3 t4 l4).objs.size] }
abbrev zh4_6 (h : Heap) (t1 : Bool) (l1 : Addr) (t2 : Bool) (l2 : Addr) (t3 : Bool) (l3 : Addr) (t4 : Bool) (l4 : Addr) : Heap := (zh4_5 h t1 l1 t2 l2 t3 l3 t4 l4).push { cls := .type "tuple", data := .seq #[.none, .none, .none, .none] }
abbrev zh4_7 (h : Heap) (t1 : Bool) (l1 : Addr) (t2 : Bool) (l2 : Addr) (t3 : Bool) (l3 : Addr) (t4 : Bool) (l4 : Addr) : Heap := (zh4_6 h t1 l1 t2 l2 t3 l3 t4 l4).push { cls := .type "zip", data := .fields #[.none, .bool false, .bool false, .ref (zh4_4 h t1 l1 t2 l2 t3 l3 t4 l4).objs.size, .ref (zh4_5 h t1 l1 t2 l2 t3 l3 t4 l4).objs.size] }
theorem meets_zipN_4 (t1 t2 t3 t4 : Bool) (l1 l2 l3 l4 : Addr) (x1 x2 x3 x4 : Array Value) :
    Meets (Builtin.«zip.__new__» ⟨[.type "zip", .ref l1, .ref l2, .ref l3, .ref l4], []⟩) (fun _ R s => IsSq s.heap t1 l1 x1 ∧ IsSq s.heap t2 l2 x2 ∧ IsSq s.heap t3 l3 x3 ∧ IsSq s.heap t4 l4 x4 ∧
      R (.ok (.ret (.ref (zh4_6 s.heap t1 l1 t2 l2 t3 l3 t4 l4).objs.size))) { s with heap := zh4_7 s.heap t1 l1 t2 l2 t3 l3 t4 l4 }) :=
  .of_wp fun prog w A R s h => by
    obtain ⟨hp, g, d, tk, os⟩ := s; obtain ⟨k1, k2, k3, k4, h⟩ := h
    have hsub := sub_zip
    have K1 : IsSq (Shared.heap ⟨zh4_0 hp t1 l1 t2 l2 t3 l3 t4 l4, g, d, tk, os⟩) t1 l1 x1 := k1
    have K2 : IsSq (Shared.heap ⟨zh4_1 hp t1 l1 t2 l2 t3 l3 t4 l4, g, d, tk, os⟩) t2 l2 x2 := (k2.push _)
    have K3 : IsSq (Shared.heap ⟨zh4_2 hp t1 l1 t2 l2 t3 l3 t4 l4, g, d, tk, os⟩) t3 l3 x3 := ((k3.push _).push _)
    have K4 : IsSq (Shared.heap ⟨zh4_3 hp t1 l1 t2 l2 t3 l3 t4 l4, g, d, tk, os⟩) t4 l4 x4 := (((k4.push _).push _).push _)
    wp_walk using pyIter_sq K1, pyIter_sq K2, pyIter_sq K3, pyIter_sq K4
    exact ⟨_, rfl, h⟩
section
variable {prog : Program} {w : World} {A : Around} {E : Value → Shared → Prop} {s : Shared}
theorem call_zipN_4 {t1 t2 t3 t4 : Bool} {l1 l2 l3 l4 : Addr} {x1 x2 x3 x4 : Array Value} {Q : Value → Shared → Prop} (k1 : IsSq s.heap t1 l1 x1) (k2 : IsSq s.heap t2 l2 x2) (k3 : IsSq s.heap t3 l3 x3) (k4 : IsSq s.heap t4 l4 x4)
    (h : ∀ h', IsZip h' (s.heap.objs.size + 6) (s.heap.objs.size + 4) (s.heap.objs.size + 5) .none → IsTV h' (s.heap.objs.size + 4) (([⟨t1, s.heap.objs.size, l1⟩, ⟨t2, s.heap.objs.size + 1, l2⟩, ⟨t3, s.heap.objs.size + 2, l3⟩, ⟨t4, s.heap.objs.size + 3, l4⟩] : List Zs).map fun c => Value.ref c.it).toArray → IsTV h' (s.heap.objs.size + 5) #[.none, .none, .none, .none] → (∀ c ∈ ([⟨t1, s.heap.objs.size, l1⟩, ⟨t2, s.heap.objs.size + 1, l2⟩, ⟨t3, s.heap.objs.size + 2, l3⟩, ⟨t4, s.heap.objs.size + 3, l4⟩] : List Zs), IsIt h' c.t c.it c.l 0) →
      (∀ c o, s.heap.get? c = some o → h'.get? c = some o) → Q (.ref (s.heap.objs.size + 6)) { s with heap := h' }) :
    wpAny (model prog w) A (call (.type "zip") [.ref l1, .ref l2, .ref l3, .ref l4]) Q E s := by
  refine callType_new F.called_zip (by decide) (typeCall_zip_4 _ _ _ _) (newCall_zip_4 _ _ _ _) (fun obj => args_object_init_5 obj _ _ _ _) F.entry_zip_new
    (meets_zipN_4 t1 t2 t3 t4 l1 l2 l3 l4 x1 x2 x3 x4) ⟨k1, k2, k3, k4, ?_⟩
  have z1 : (zh4_1 s.heap t1 l1 t2 l2 t3 l3 t4 l4).objs.size = s.heap.objs.size + 1 := Heap.size_push ..
  have z2 : (zh4_2 s.heap t1 l1 t2 l2 t3 l3 t4 l4).objs.size = s.heap.objs.size + 2 := by rw [Heap.size_push, z1]
  have z3 : (zh4_3 s.heap t1 l1 t2 l2 t3 l3 t4 l4).objs.size = s.heap.objs.size + 3 := by rw [Heap.size_push, z2]
  have z4 : (zh4_4 s.heap t1 l1 t2 l2 t3 l3 t4 l4).objs.size = s.heap.objs.size + 4 := by rw [Heap.size_push, z3]
  have z5 : (zh4_5 s.heap t1 l1 t2 l2 t3 l3 t4 l4).objs.size = s.heap.objs.size + 5 := by rw [Heap.size_push, z4]
  have z6 : (zh4_6 s.heap t1 l1 t2 l2 t3 l3 t4 l4).objs.size = s.heap.objs.size + 6 := by rw [Heap.size_push, z5]
  have g1 : (zh4_7 s.heap t1 l1 t2 l2 t3 l3 t4 l4).get? (zh4_0 s.heap t1 l1 t2 l2 t3 l3 t4 l4).objs.size = some _ := Heap.get?_push_of_some _ (Heap.get?_push_of_some _ (Heap.get?_push_of_some _ (Heap.get?_push_of_some _ (Heap.get?_push_of_some _ (Heap.get?_push_of_some _ (Heap.get?_push_size _ (itObj_fr _ _)))))))
  have g2 : (zh4_7 s.heap t1 l1 t2 l2 t3 l3 t4 l4).get? (zh4_1 s.heap t1 l1 t2 l2 t3 l3 t4 l4).objs.size = some _ := Heap.get?_push_of_some _ (Heap.get?_push_of_some _ (Heap.get?_push_of_some _ (Heap.get?_push_of_some _ (Heap.get?_push_of_some _ (Heap.get?_push_size _ (itObj_fr _ _))))))
  have g3 : (zh4_7 s.heap t1 l1 t2 l2 t3 l3 t4 l4).get? (zh4_2 s.heap t1 l1 t2 l2 t3 l3 t4 l4).objs.size = some _ := Heap.get?_push_of_some _ (Heap.get?_push_of_some _ (Heap.get?_push_of_some _ (Heap.get?_push_of_some _ (Heap.get?_push_size _ (itObj_fr _ _)))))
  have g4 : (zh4_7 s.heap t1 l1 t2 l2 t3 l3 t4 l4).get? (zh4_3 s.heap t1 l1 t2 l2 t3 l3 t4 l4).objs.size = some _ := Heap.get?_push_of_some _ (Heap.get?_push_of_some _ (Heap.get?_push_of_some _ (Heap.get?_push_size _ (itObj_fr _ _))))
  have g5 : (zh4_7 s.heap t1 l1 t2 l2 t3 l3 t4 l4).get? (zh4_4 s.heap t1 l1 t2 l2 t3 l3 t4 l4).objs.size = some _ := Heap.get?_push_of_some _ (Heap.get?_push_of_some _ (Heap.get?_push_size _ rfl))
  have g6 : (zh4_7 s.heap t1 l1 t2 l2 t3 l3 t4 l4).get? (zh4_5 s.heap t1 l1 t2 l2 t3 l3 t4 l4).objs.size = some _ := Heap.get?_push_of_some _ (Heap.get?_push_size _ rfl)
  have g7 : (zh4_7 s.heap t1 l1 t2 l2 t3 l3 t4 l4).get? (zh4_6 s.heap t1 l1 t2 l2 t3 l3 t4 l4).objs.size = some _ := Heap.get?_push_size _ rfl
  show _ ∧ _
  rw [z1] at g2
  rw [z2] at g3
  rw [z3] at g4
  rw [z1, z2, z3, z4] at g5
  rw [z5] at g6
  rw [z4, z5, z6] at g7
  rw [z6]
  refine ⟨⟨_, g7, rfl⟩, h _ g7 g5 g6 (fun c hc => ?_) fun c o x => Heap.get?_push_of_some _ (Heap.get?_push_of_some _ (Heap.get?_push_of_some _ (Heap.get?_push_of_some _ (Heap.get?_push_of_some _ (Heap.get?_push_of_some _ (Heap.get?_push_of_some _ (x)))))))⟩
  simp only [List.mem_cons, List.not_mem_nil, or_false] at hc
  rcases hc with rfl | rfl | rfl | rfl
  · exact itObj_is g1
  · exact itObj_is g2
  · exact itObj_is g3
  · exact itObj_is g4
end
def iZipN (K : PySem.W.Frag) (ta : TA) : TI := fun σ H R => ta σ H fun vs H1 => ∃ cs : List (Bool × Addr), vs = cs.map (fun c => V.ref c.2) ∧ (cs.length = 2 ∨ cs.length = 3 ∨ cs.length = 4) ∧ (∀ c ∈ cs, ∃ xs, Sq2 K H1 c.1 c.2 xs) ∧ R (ItzN K cs) H1
theorem mem_range_map {N n : Nat} {a : Nat} (h : a ∈ (List.range n).map (N + ·)) : a < N + n ∧ N ≤ a := by
  obtain ⟨i, hi, rfl⟩ := List.mem_map.mp h
  have := List.mem_range.mp hi
  omega
theorem nodup_range_map (N n : Nat) : ((List.range n).map (N + ·)).Nodup := by
  rw [List.nodup_iff_pairwise_ne, List.pairwise_map]
  exact (List.nodup_iff_pairwise_ne.mp List.nodup_range).imp fun h => by omega
theorem apart_nat {N n : Nat} {l : List Nat} (h : l = (List.range n).map (N + ·)) : ((N + (n + 2)) :: (N + n) :: (N + (n + 1)) :: l).Nodup ∧ ∀ a : Nat, a < N → a ∉ (N + (n + 2)) :: (N + n) :: (N + (n + 1)) :: l := by
  subst h
  refine ⟨?_, fun a ha q => ?_⟩
  · refine List.nodup_cons.mpr ⟨fun q => ?_, List.nodup_cons.mpr ⟨fun q => ?_, List.nodup_cons.mpr ⟨fun q => ?_, nodup_range_map N n⟩⟩⟩
    · rcases List.mem_cons.mp q with q | q
      · omega
      rcases List.mem_cons.mp q with q | q
      · omega
      have := mem_range_map q
      omega
    · rcases List.mem_cons.mp q with q | q
      · omega
      have := mem_range_map q
      omega
    · have := mem_range_map q
      omega
  · rcases List.mem_cons.mp q with q | q
    · omega
    rcases List.mem_cons.mp q with q | q
    · omega
    rcases List.mem_cons.mp q with q | q
    · omega
    have := mem_range_map q
    omega
theorem apart_of {N : Nat} {zs : List Zs} {n : Nat} (h : zits zs = (List.range n).map (N + ·)) (hl : ∀ c ∈ zs, c.l < N) : ZApart (N + (n + 2)) (N + n) (N + (n + 1)) zs :=
  ⟨(apart_nat (l := zits zs) h).1, fun c hc => (apart_nat (l := zits zs) h).2 c.l (hl c hc)⟩
theorem fresh_nat {N n : Nat} {l : List Nat} (h : l = (List.range n).map (N + ·)) : ∀ c : Nat, c ∈ (N + (n + 2)) :: (N + n) :: (N + (n + 1)) :: l → N ≤ c := fun c hc => by
  subst h
  rcases List.mem_cons.mp hc with q | hc
  · omega
  rcases List.mem_cons.mp hc with q | hc
  · omega
  rcases List.mem_cons.mp hc with q | hc
  · omega
  exact (mem_range_map hc).2
theorem pi_zipN {X : Cx} {e : Expr} {es : List Expr} {ta : TA} {p pos tpos : Pos} {elts : List Expr} {kk : Nat} (hg : Gl X "zip") (hm : X.mg "zip" = none) (ha : PA X (e :: es) ta)
    (hs : starEach (e :: es) X.env = (false, eval e X.env) :: starEach es X.env := by rfl) (hpl : (backTo pos (starEach es X.env)).any (·.1) = false := by rfl) :
    PI X (.Tuple elts kk tpos) (.Call (.Name "zip" p) (e :: es) [] pos) (iZipN X.K ta) := by
  refine ⟨fun pins s σ H R I h => ?_⟩
  refine Call_ (ld_blt I hg hm PyProof.Rows.boot_zip (PyProof.Rows.callWith_type1 (thn (ha.run pos pins s σ H _ I h) fun us s1 ⟨vs, H1, I1, r1, q1⟩ => ?_) hs hpl))
  obtain ⟨cs, ex, hlen, hsq, q1⟩ := q1
  subst ex
  have lt : ∀ c ∈ cs, ∃ xs, IsSq s1.heap c.1 c.2 xs := fun c hc => by
    obtain ⟨xs, hx⟩ := hsq c hc
    obtain ⟨its, _, p⟩ := inv_sq I1 hx
    exact ⟨_, p⟩
  have lo : ∀ c ∈ cs, c.2 < s1.heap.objs.size := fun c hc => by
    obtain ⟨xs, hx⟩ := lt c hc
    obtain ⟨o, ho⟩ := hx.there
    exact Heap.lt_size ho
  have fresh : ∀ (n : Nat) (zs : List Zs), zits zs = (List.range n).map (s1.heap.objs.size + ·) → ∀ c ∈ (s1.heap.objs.size + (n + 2)) :: (s1.heap.objs.size + n) :: (s1.heap.objs.size + (n + 1)) :: zits zs, FpOk X pins H1 c := fun n zs hz c hc => by
    have hle : s1.heap.objs.size ≤ c := fresh_nat (l := zits zs) hz c hc
    exact I1.fpOk hle (I1.hok.fresh hle)
  match cs, hlen with
  | [c1, c2], _ =>
    cases r1 with
    | cons r r1 =>
    cases r
    cases r1 with
    | cons r r1 =>
    cases r
    cases r1
    obtain ⟨x1, k1⟩ := lt c1 (by simp)
    obtain ⟨x2, k2⟩ := lt c2 (by simp)
    refine call_zipN_2 k1 k2 fun h' hz hTI hTO h1 hk => wpAny_pyIter_zip hz ?_
    have I2 : Inv X pins σ H1 { s1 with heap := h' } := I1.kept (t' := s1.toks) hk
    have D := apart_of (n := 2) (N := s1.heap.objs.size) (zs := [⟨c1.1, s1.heap.objs.size, c1.2⟩, ⟨c2.1, s1.heap.objs.size + 1, c2.2⟩]) rfl (fun c hc => by
      simp only [List.mem_cons, List.not_mem_nil, or_false] at hc
      rcases hc with rfl | rfl
      · exact lo c1 (by simp)
      · exact lo c2 (by simp))
    exact ⟨s1.heap.objs.size + 4, _, _, _, H1, rfl, I2, turn_zipN D (by simp) (by simp), ⟨hz, hTI, ⟨_, hTO, rfl⟩, h1⟩, fresh 2 _ rfl, q1⟩
  | [c1, c2, c3], _ =>
    cases r1 with
    | cons r r1 =>
    cases r
    cases r1 with
    | cons r r1 =>
    cases r
    cases r1 with
    | cons r r1 =>
    cases r
    cases r1
    obtain ⟨x1, k1⟩ := lt c1 (by simp)
    obtain ⟨x2, k2⟩ := lt c2 (by simp)
    obtain ⟨x3, k3⟩ := lt c3 (by simp)
    refine call_zipN_3 k1 k2 k3 fun h' hz hTI hTO h1 hk => wpAny_pyIter_zip hz ?_
    have I2 : Inv X pins σ H1 { s1 with heap := h' } := I1.kept (t' := s1.toks) hk
    have D := apart_of (n := 3) (N := s1.heap.objs.size) (zs := [⟨c1.1, s1.heap.objs.size, c1.2⟩, ⟨c2.1, s1.heap.objs.size + 1, c2.2⟩, ⟨c3.1, s1.heap.objs.size + 2, c3.2⟩]) rfl (fun c hc => by
      simp only [List.mem_cons, List.not_mem_nil, or_false] at hc
      rcases hc with rfl | rfl | rfl
      · exact lo c1 (by simp)
      · exact lo c2 (by simp)
      · exact lo c3 (by simp))
    exact ⟨s1.heap.objs.size + 5, _, _, _, H1, rfl, I2, turn_zipN D (by simp) (by simp), ⟨hz, hTI, ⟨_, hTO, rfl⟩, h1⟩, fresh 3 _ rfl, q1⟩
  | [c1, c2, c3, c4], _ =>
    cases r1 with
    | cons r r1 =>
    cases r
    cases r1 with
    | cons r r1 =>
    cases r
    cases r1 with
    | cons r r1 =>
    cases r
    cases r1 with
    | cons r r1 =>
    cases r
    cases r1
    obtain ⟨x1, k1⟩ := lt c1 (by simp)
    obtain ⟨x2, k2⟩ := lt c2 (by simp)
    obtain ⟨x3, k3⟩ := lt c3 (by simp)
    obtain ⟨x4, k4⟩ := lt c4 (by simp)
    refine call_zipN_4 k1 k2 k3 k4 fun h' hz hTI hTO h1 hk => wpAny_pyIter_zip hz ?_
    have I2 : Inv X pins σ H1 { s1 with heap := h' } := I1.kept (t' := s1.toks) hk
    have D := apart_of (n := 4) (N := s1.heap.objs.size) (zs := [⟨c1.1, s1.heap.objs.size, c1.2⟩, ⟨c2.1, s1.heap.objs.size + 1, c2.2⟩, ⟨c3.1, s1.heap.objs.size + 2, c3.2⟩, ⟨c4.1, s1.heap.objs.size + 3, c4.2⟩]) rfl (fun c hc => by
      simp only [List.mem_cons, List.not_mem_nil, or_false] at hc
      rcases hc with rfl | rfl | rfl | rfl
      · exact lo c1 (by simp)
      · exact lo c2 (by simp)
      · exact lo c3 (by simp)
      · exact lo c4 (by simp))
    exact ⟨s1.heap.objs.size + 6, _, _, _, H1, rfl, I2, turn_zipN D (by simp) (by simp), ⟨hz, hTI, ⟨_, hTO, rfl⟩, h1⟩, fresh 4 _ rfl, q1⟩
  | [], h => simp at h
  | [_], h => simp at h
  | _ :: _ :: _ :: _ :: _ :: _, h => simp at h

/-! ### the mirror: values, memory, and how they stand for what is in the heap -/
inductive D where
  | non
  | bl (b : Bool)
  | int (i : Int)
  | str (x : Str)
  | ty (n : String)
  | fn (n : Nat)
  | tup (xs : List D)
  | rol (xs : List D)
  | rf (i : Nat)
/- the written part, and where defs and classes stand by their numbers -/
structure Kx where
  K : PySem.W.Frag
  Γ : Nat → Addr
inductive Cell where
  | lst (xs : List D)
  | dK (kvs : List (Key × D))
  | ins (c : Nat) (fs : List (Str × D))
abbrev Mem := List Cell
abbrev Rho := List (Option D)
/- a tuple, a list that stands for good -/
def TupS (K : Kx) (H : Hp) (a : Addr) (xs : List V) : Prop := H a = some (.tup xs) ∨ ∀ H', SqT K.K H' a xs
def RolS (K : Kx) (H : Hp) (a : Addr) (xs : List V) : Prop := (∃ o, H a = some (.frz o (.lst xs))) ∨ ∀ H', SqL K.K H' a xs
mutual
inductive VR (K : Kx) (as : List Addr) (H : Hp) : V → D → Prop
  | non : VR K as H .non .non
  | bl (b : Bool) : VR K as H (.bl b) (.bl b)
  | int (i : Int) : VR K as H (.int i) (.int i)
  | str (x : Str) : VR K as H (.str x) (.str x)
  | ty (n : String) : VR K as H (.ty n) (.ty n)
  | fn (n : Nat) : VR K as H (.ref (K.Γ n)) (.fn n)
  | tup {a : Addr} {xs : List V} {ds : List D} : TupS K H a xs → VRs K as H xs ds → VR K as H (.ref a) (.tup ds)
  | rol {a : Addr} {xs : List V} {ds : List D} : RolS K H a xs → VRs K as H xs ds → VR K as H (.ref a) (.rol ds)
  | rf {i : Nat} {a : Addr} : as[i]? = some a → VR K as H (.ref a) (.rf i)
inductive VRs (K : Kx) (as : List Addr) (H : Hp) : List V → List D → Prop
  | nil : VRs K as H [] []
  | cons {v : V} {vs : List V} {d : D} {ds : List D} : VR K as H v d → VRs K as H vs ds → VRs K as H (v :: vs) (d :: ds)
end
/- the heap grows: what is tracked by the memory may change, all else stays -/
structure Gr (as : List Addr) (H : Hp) (as' : List Addr) (H' : Hp) : Prop where
  app : ∃ t, as' = as ++ t
  live : ∀ a o, H a = some o → ∃ o', H' a = some o'
  keep : ∀ a o, H a = some o → a ∉ as → H' a = some o
  fresh : ∀ a, a ∈ as' → a ∉ as → H a = none
  tup : ∀ a xs, H a = some (.tup xs) → H' a = some (.tup xs)
  frz : ∀ a o u, H a = some (.frz o u) → H' a = some (.frz o u)
section
variable {K : Kx} {as as' as1 as2 : List Addr} {H H' H1 H2 : Hp}
theorem Gr.refl : Gr as H as H := ⟨⟨[], by simp⟩, fun _ o h => ⟨o, h⟩, fun _ _ h _ => h, fun _ h n => absurd h n, fun _ _ h => h, fun _ _ _ h => h⟩
theorem Gr.trans (g : Gr as H as1 H1) (k : Gr as1 H1 as2 H2) : Gr as H as2 H2 where
  app := by
    obtain ⟨t, rfl⟩ := g.app
    obtain ⟨u, rfl⟩ := k.app
    exact ⟨t ++ u, by simp⟩
  live := fun a o h => let ⟨o1, h1⟩ := g.live a o h; k.live a o1 h1
  keep := fun a o h n => by
    by_cases m : a ∈ as1
    · have := g.fresh a m n
      rw [h] at this; cases this
    · exact k.keep a o (g.keep a o h n) m
  fresh := fun a m n => by
    by_cases m1 : a ∈ as1
    · exact g.fresh a m1 n
    · have h1 := k.fresh a m m1
      cases e : H a with
      | none => rfl
      | some o =>
        obtain ⟨o1, q⟩ := g.live a o e
        rw [h1] at q; cases q
  tup := fun a xs h => k.tup a xs (g.tup a xs h)
  frz := fun a o u h => k.frz a o u (g.frz a o u h)
/- as much of it as values need -/
structure Gv (as : List Addr) (H : Hp) (as' : List Addr) (H' : Hp) : Prop where
  app : ∃ t, as' = as ++ t
  tup : ∀ a xs, H a = some (.tup xs) → H' a = some (.tup xs)
  frz : ∀ a o u, H a = some (.frz o u) → H' a = some (.frz o u)
theorem Gr.gv (g : Gr as H as' H') : Gv as H as' H' := ⟨g.app, g.tup, g.frz⟩
theorem Gv.get (g : Gv as H as' H') {i : Nat} {a : Addr} (h : as[i]? = some a) : as'[i]? = some a := by
  obtain ⟨t, rfl⟩ := g.app
  rw [List.getElem?_append_left (List.getElem?_eq_some_iff.mp h).1]
  exact h
theorem TupS.gv (g : Gv as H as' H') {a : Addr} {xs : List V} (h : TupS K H a xs) : TupS K H' a xs := h.elim (fun h => .inl (g.tup _ _ h)) .inr
theorem TupS.sq {a : Addr} {xs : List V} (h : TupS K H a xs) : SqT K.K H a xs := h.elim SqT.of fun h => h H
theorem RolS.gv (g : Gv as H as' H') {a : Addr} {xs : List V} (h : RolS K H a xs) : RolS K H' a xs := h.elim (fun ⟨o, h⟩ => .inl ⟨o, g.frz _ _ _ h⟩) .inr
theorem RolS.sq {a : Addr} {xs : List V} (h : RolS K H a xs) : SqL K.K H a xs := h.elim (fun ⟨o, h⟩ => .inl (.inr ⟨o, h⟩)) fun h => h H
mutual
theorem VR.gv (g : Gv as H as' H') : ∀ {v : V} {d : D}, VR K as H v d → VR K as' H' v d
  | _, _, .non => .non
  | _, _, .bl b => .bl b
  | _, _, .int i => .int i
  | _, _, .str x => .str x
  | _, _, .ty n => .ty n
  | _, _, .fn a => .fn a
  | _, _, .tup h hs => .tup (h.gv g) (VRs.gv g hs)
  | _, _, .rol h hs => .rol (h.gv g) (VRs.gv g hs)
  | _, _, .rf h => .rf (g.get h)
theorem VRs.gv (g : Gv as H as' H') : ∀ {vs : List V} {ds : List D}, VRs K as H vs ds → VRs K as' H' vs ds
  | _, _, .nil => .nil
  | _, _, .cons h hs => .cons (VR.gv g h) (VRs.gv g hs)
end
theorem VR.gr (g : Gr as H as' H') {v : V} {d : D} (h : VR K as H v d) : VR K as' H' v d := h.gv g.gv
theorem VRs.gr (g : Gr as H as' H') {vs : List V} {ds : List D} (h : VRs K as H vs ds) : VRs K as' H' vs ds := h.gv g.gv
theorem VRs.len : ∀ {vs : List V} {ds : List D}, VRs K as H vs ds → vs.length = ds.length
  | _, _, .nil => rfl
  | _, _, .cons _ hs => congrArg (· + 1) (VRs.len hs)
theorem VRs.get : ∀ {vs : List V} {ds : List D} {j : Nat} {d : D}, VRs K as H vs ds → ds[j]? = some d → ∃ v, vs[j]? = some v ∧ VR K as H v d
  | _, _, _, _, .nil, e => by simp at e
  | _, _, 0, _, .cons h _, e => by
    simp at e
    subst e
    exact ⟨_, rfl, h⟩
  | _, _, j + 1, _, .cons _ hs, e => by
    obtain ⟨v, h1, h2⟩ := VRs.get (j := j) hs (by simpa using e)
    exact ⟨v, by simpa using h1, h2⟩
theorem VRs.append : ∀ {xs ys : List V} {ds es : List D}, VRs K as H xs ds → VRs K as H ys es → VRs K as H (xs ++ ys) (ds ++ es)
  | _, _, _, _, .nil, s => s
  | _, _, _, _, .cons r t, s => .cons r (VRs.append t s)
theorem VRs.take : ∀ {xs : List V} {ds : List D} (n : Nat), VRs K as H xs ds → VRs K as H (xs.take n) (ds.take n)
  | _, _, 0, _ => by simpa using VRs.nil
  | _, _, _ + 1, .nil => .nil
  | _, _, n + 1, .cons r t => .cons r (VRs.take n t)
theorem VRs.drop : ∀ {xs : List V} {ds : List D} (n : Nat), VRs K as H xs ds → VRs K as H (xs.drop n) (ds.drop n)
  | _, _, 0, r => r
  | _, _, _ + 1, .nil => .nil
  | _, _, n + 1, .cons _ t => VRs.drop n t
theorem VRs.set {x : V} {d : D} (r : VR K as H x d) : ∀ {xs : List V} {ds : List D} (i : Nat), VRs K as H xs ds → VRs K as H (xs.set i x) (ds.set i d)
  | _, _, _, .nil => .nil
  | _, _, 0, .cons _ t => .cons r t
  | _, _, i + 1, .cons q t => .cons q (VRs.set r i t)
theorem VRs.rev : ∀ {xs : List V} {ds : List D}, VRs K as H xs ds → VRs K as H xs.reverse ds.reverse
  | _, _, .nil => .nil
  | _, _, .cons r t => by
    rw [List.reverse_cons, List.reverse_cons]
    exact (VRs.rev t).append (.cons r .nil)
theorem VRs.isEmpty {xs : List V} {ds : List D} (h : VRs K as H xs ds) : xs.isEmpty = ds.isEmpty := by
  cases h <;> rfl
theorem VRs.nil_iff {xs : List V} {ds : List D} (h : VRs K as H xs ds) : xs = [] ↔ ds = [] := by
  cases h <;> simp
def CRel (K : Kx) (as : List Addr) (H : Hp) (a : Addr) : Cell → Prop
  | .lst ds => ∃ xs, H a = some (.lst xs) ∧ VRs K as H xs ds
  | .dK kds => ∃ kvs, H a = some (.dK kvs) ∧ kvs.map (·.1) = kds.map (·.1) ∧ VRs K as H (kvs.map (·.2)) (kds.map (·.2))
  | .ins c fds => ∃ dx fs, H a = some (.ins (K.Γ c) dx fs) ∧ fs.map (·.1) = fds.map (·.1) ∧ VRs K as H (fs.map (·.2)) (fds.map (·.2))
theorem CRel.gv (g : Gv as H as' H') {a : Addr} (e : H' a = H a) : ∀ {c : Cell}, CRel K as H a c → CRel K as' H' a c
  | .lst _, ⟨xs, h, r⟩ => ⟨xs, e.trans h, r.gv g⟩
  | .dK _, ⟨kvs, h, k, r⟩ => ⟨kvs, e.trans h, k, r.gv g⟩
  | .ins _ _, ⟨dx, fs, h, k, r⟩ => ⟨dx, fs, e.trans h, k, r.gv g⟩
theorem CRel.gr (g : Gr as H as' H') {a : Addr} (e : H' a = H a) {c : Cell} (h : CRel K as H a c) : CRel K as' H' a c := h.gv g.gv e
/- what a cell's place holds is no tuple and nothing locked -/
theorem CRel.there {a : Addr} : ∀ {c : Cell}, CRel K as H a c → ∃ o, H a = some o ∧ (∀ xs, o ≠ .tup xs) ∧ ∀ p u, o ≠ .frz p u
  | .lst _, ⟨_, h, _⟩ => ⟨_, h, fun _ z => (nomatch z), fun _ _ z => (nomatch z)⟩
  | .dK _, ⟨_, h, _⟩ => ⟨_, h, fun _ z => (nomatch z), fun _ _ z => (nomatch z)⟩
  | .ins _ _, ⟨_, _, h, _⟩ => ⟨_, h, fun _ z => (nomatch z), fun _ _ z => (nomatch z)⟩
structure MR (K : Kx) (as : List Addr) (H : Hp) (M : Mem) : Prop where
  len : as.length = M.length
  nd : as.Nodup
  cell : ∀ (i : Nat) (a : Addr) (c : Cell), as[i]? = some a → M[i]? = some c → CRel K as H a c
variable {M : Mem}
theorem MR.nil : MR K [] H [] := ⟨rfl, List.nodup_nil, fun _ _ _ h => by simp at h⟩
theorem MR.at (m : MR K as H M) {i : Nat} {a : Addr} (h : as[i]? = some a) : ∃ c, M[i]? = some c ∧ CRel K as H a c := by
  have hi : i < M.length := by rw [← m.len]; exact (List.getElem?_eq_some_iff.mp h).1
  exact ⟨M[i], List.getElem?_eq_getElem hi, m.cell i a _ h (List.getElem?_eq_getElem hi)⟩
theorem MR.get (m : MR K as H M) {i : Nat} {c : Cell} (h : M[i]? = some c) : ∃ a, as[i]? = some a ∧ CRel K as H a c := by
  have hi : i < as.length := by rw [m.len]; exact (List.getElem?_eq_some_iff.mp h).1
  exact ⟨as[i], List.getElem?_eq_getElem hi, m.cell i _ c (List.getElem?_eq_getElem hi) h⟩
theorem MR.there (m : MR K as H M) {a : Addr} (h : a ∈ as) : ∃ o, H a = some o ∧ (∀ xs, o ≠ .tup xs) ∧ ∀ p u, o ≠ .frz p u := by
  obtain ⟨i, hi⟩ := List.getElem?_of_mem h
  obtain ⟨c, _, r⟩ := m.at hi
  exact r.there
theorem MR.keepv (m : MR K as H M) (g : Gv as H as H') (e : ∀ a ∈ as, H' a = H a) : MR K as H' M :=
  ⟨m.len, m.nd, fun i a c h1 h2 => (m.cell i a c h1 h2).gv g (e a (List.mem_of_getElem? h1))⟩
theorem MR.keep (m : MR K as H M) (g : Gr as H as H') (e : ∀ a ∈ as, H' a = H a) : MR K as H' M := m.keepv g.gv e
/- a new object that the memory doesn't track -/
theorem Gr.new {p : Addr} {o : HO} (hp : H p = none) : Gr as H as (upd H p o) where
  app := ⟨[], by simp⟩
  live := fun a u h => ⟨u, by rw [upd_ne (ne_of_none h hp)]; exact h⟩
  keep := fun a u h _ => by rw [upd_ne (ne_of_none h hp)]; exact h
  fresh := fun a h n => absurd h n
  tup := fun a xs h => by rw [upd_ne (ne_of_none h hp)]; exact h
  frz := fun a u xs h => by rw [upd_ne (ne_of_none h hp)]; exact h
theorem MR.new (m : MR K as H M) {p : Addr} {o : HO} (hp : H p = none) : MR K as (upd H p o) M :=
  m.keep (Gr.new hp) fun a h => by
    obtain ⟨u, e, _⟩ := m.there h
    rw [upd_ne (ne_of_none e hp)]
/- a new object that the memory tracks -/
theorem Gr.alloc {p : Addr} {o : HO} (hp : H p = none) : Gr as H (as ++ [p]) (upd H p o) where
  app := ⟨[p], rfl⟩
  live := (Gr.new (as := as) hp).live
  keep := (Gr.new (as := as) hp).keep
  fresh := fun a h n => by
    rcases List.mem_append.mp h with h | h
    · exact absurd h n
    · rw [List.mem_singleton.mp h]; exact hp
  tup := (Gr.new (as := as) hp).tup
  frz := (Gr.new (as := as) hp).frz
theorem MR.alloc (m : MR K as H M) {p : Addr} {o : HO} {c : Cell} (hp : H p = none) (hc : CRel K (as ++ [p]) (upd H p o) p c) : MR K (as ++ [p]) (upd H p o) (M ++ [c]) := by
  have np : p ∉ as := fun h => by
    obtain ⟨u, e, _⟩ := m.there h
    rw [hp] at e; cases e
  refine ⟨by simp [m.len], ?_, fun i a c' h1 h2 => ?_⟩
  · rw [List.nodup_append]
    exact ⟨m.nd, by simp, fun a ha b hb z => by
      rw [List.mem_singleton.mp hb] at z
      subst z
      exact np ha⟩
  · by_cases hi : i < as.length
    · rw [List.getElem?_append_left hi] at h1
      rw [List.getElem?_append_left (by rw [← m.len]; exact hi)] at h2
      obtain ⟨u, e, _⟩ := m.there (List.mem_of_getElem? h1)
      exact (m.cell i a c' h1 h2).gr (Gr.alloc hp) (by rw [upd_ne (ne_of_none e hp)])
    · have : i = as.length := by
        have := (List.getElem?_eq_some_iff.mp h1).1
        simp at this
        omega
      subst this
      rw [List.getElem?_append_right (Nat.le_refl _)] at h1
      rw [m.len, List.getElem?_append_right (Nat.le_refl _)] at h2
      simp at h1 h2
      subst h1 h2
      exact hc
theorem Gr.write (m : MR K as H M) {a : Addr} {o : HO} (h : a ∈ as) : Gr as H as (upd H a o) := by
  obtain ⟨u, e, n1, n2⟩ := m.there h
  refine ⟨⟨[], by simp⟩, fun b x q => ?_, fun b x q n => ?_, fun b q n => absurd q n, fun b xs q => ?_, fun b p x q => ?_⟩
  · by_cases hb : b = a
    · subst hb; exact ⟨o, upd_same⟩
    · exact ⟨x, by rw [upd_ne hb]; exact q⟩
  · rw [upd_ne fun z => n (by rw [z]; exact h)]; exact q
  · rw [upd_ne fun z => n1 xs (by rw [z, e] at q; exact Option.some.inj q)]; exact q
  · rw [upd_ne fun z => n2 p x (by rw [z, e] at q; exact Option.some.inj q)]; exact q
theorem MR.write (m : MR K as H M) {i : Nat} {a : Addr} {o : HO} {c : Cell} (h : as[i]? = some a) (hc : CRel K as (upd H a o) a c) : MR K as (upd H a o) (M.set i c) := by
  have g : Gr as H as (upd H a o) := Gr.write m (List.mem_of_getElem? h)
  refine ⟨by simp [m.len], m.nd, fun j b c' h1 h2 => ?_⟩
  by_cases hj : j = i
  · subst hj
    rw [h] at h1
    cases h1
    have : j < M.length := by rw [← m.len]; exact (List.getElem?_eq_some_iff.mp h).1
    rw [List.getElem?_set_self this] at h2
    cases h2
    exact hc
  · rw [List.getElem?_set_ne (fun z => hj z.symm)] at h2
    have hb : b ≠ a := fun z => by
      subst z
      exact hj ((List.getElem?_inj (List.getElem?_eq_some_iff.mp h1).1 m.nd).mp (by rw [h1, h]))
    exact (m.cell j b c' h1 h2).gr g (upd_ne hb)
/-! what stands behind the first n cells is forgotten -/
mutual
def D.lo (n : Nat) : D → Bool
  | .tup ds => D.los n ds
  | .rol ds => D.los n ds
  | .rf i => decide (i < n)
  | _ => true
def D.los (n : Nat) : List D → Bool
  | [] => true
  | d :: ds => D.lo n d && D.los n ds
end
abbrev D.imm : D → Bool := D.lo 0
mutual
theorem VR.low {n : Nat} : ∀ {v : V} {d : D}, VR K as H v d → d.lo n = true → VR K (as.take n) H v d
  | _, _, .non, _ => .non
  | _, _, .bl b, _ => .bl b
  | _, _, .int i, _ => .int i
  | _, _, .str x, _ => .str x
  | _, _, .ty n, _ => .ty n
  | _, _, .fn a, _ => .fn a
  | _, _, .tup h hs, e => .tup h (VRs.low hs (by simpa [D.lo] using e))
  | _, _, .rol h hs, e => .rol h (VRs.low hs (by simpa [D.lo] using e))
  | _, _, .rf h, e => .rf (by
    simp only [D.lo, decide_eq_true_eq] at e
    rw [List.getElem?_take_of_lt e]
    exact h)
theorem VRs.low {n : Nat} : ∀ {vs : List V} {ds : List D}, VRs K as H vs ds → D.los n ds = true → VRs K (as.take n) H vs ds
  | _, _, .nil, _ => .nil
  | _, _, .cons h hs, e => by
    simp only [D.los, Bool.and_eq_true] at e
    exact .cons (VR.low h e.1) (VRs.low hs e.2)
end
def Cell.lo (n : Nat) : Cell → Bool
  | .lst ds => D.los n ds
  | .dK kds => D.los n (kds.map (·.2))
  | .ins _ fds => D.los n (fds.map (·.2))
theorem CRel.low {n : Nat} {a : Addr} : ∀ {c : Cell}, CRel K as H a c → c.lo n = true → CRel K (as.take n) H a c
  | .lst _, ⟨xs, h, r⟩, e => ⟨xs, h, r.low e⟩
  | .dK _, ⟨kvs, h, k, r⟩, e => ⟨kvs, h, k, r.low e⟩
  | .ins _ _, ⟨dx, fs, h, k, r⟩, e => ⟨dx, fs, h, k, r.low e⟩
theorem MR.low (m : MR K as H M) {n : Nat} (e : (M.take n).all (Cell.lo n) = true) : MR K (as.take n) H (M.take n) := by
  refine ⟨by simp [m.len], m.nd.sublist (List.take_sublist n as), fun i a c h1 h2 => ?_⟩
  have hi : i < n := by
    have := (List.getElem?_eq_some_iff.mp h1).1
    simp at this
    omega
  have hc := List.all_eq_true.mp e c (List.mem_of_getElem? h2)
  rw [List.getElem?_take_of_lt hi] at h1 h2
  exact (m.cell i a c h1 h2).low hc
theorem Gr.low (g : Gr as H as' H') : Gr as H (as'.take as.length) H' := by
  obtain ⟨t, e⟩ := g.app
  have : as'.take as.length = as := by rw [e]; simp
  rw [this]
  exact ⟨⟨[], by simp⟩, g.live, g.keep, fun _ h n => absurd h n, g.tup, g.frz⟩
theorem Gr.same (g : Gr [] H as' H') : Same H H' := fun a o h => g.keep a o h (by simp)
theorem Gr.of_same {as : List Addr} (m : MR K as H M) (s : Same H H') : Gr as H as H' :=
  ⟨⟨[], by simp⟩, fun _ o h => ⟨o, s _ _ h⟩, fun a o h _ => s a o h, fun _ h n => absurd h n, fun a xs h => s _ _ h, fun a o u h => s _ _ h⟩
theorem MR.same (m : MR K as H M) (s : Same H H') : MR K as H' M := m.keep (Gr.of_same m s) fun a h => by
  obtain ⟨o, e, _⟩ := m.there h
  rw [s _ _ e, e]
/- what has no place in the memory stands for itself in any -/
theorem VR.up (h : VR K [] H v d) : VR K as H v d := by
  have g : Gr [] H as H → VR K as H v d := fun g => h.gr g
  exact VR.rec (motive_1 := fun v d _ => VR K as H v d) (motive_2 := fun vs ds _ => VRs K as H vs ds) .non .bl .int .str .ty .fn (fun h _ hs => .tup h hs) (fun h _ hs => .rol h hs) (fun h => by simp at h) .nil (fun _ _ h hs => .cons h hs) h
theorem Gr.free (g : Gr as H as' H') {L : Addr} (h : H' L = none) : H L = none := by
  cases e : H L with
  | none => rfl
  | some o =>
    obtain ⟨o', q⟩ := g.live L o e
    rw [h] at q; cases q
/- a list that the memory doesn't track is written -/
theorem Gv.side {L : Addr} {xs : List V} {o : HO} (h : H L = some (.lst xs)) : Gv as H as (upd H L o) :=
  ⟨⟨[], by simp⟩, fun a ys q => by rw [upd_ne fun z => by rw [z, h] at q; cases q]; exact q, fun a p u q => by rw [upd_ne fun z => by rw [z, h] at q; cases q]; exact q⟩
theorem Gr.over (g : Gr as H as' H') {L : Addr} {o : HO} (hn : H L = none) : Gr as H as' (upd H' L o) where
  app := g.app
  live := fun a u q => by
    obtain ⟨u', q'⟩ := g.live a u q
    exact ⟨u', by rw [upd_ne (ne_of_none q hn)]; exact q'⟩
  keep := fun a u q n => by rw [upd_ne (ne_of_none q hn)]; exact g.keep a u q n
  fresh := g.fresh
  tup := fun a xs q => by rw [upd_ne (ne_of_none q hn)]; exact g.tup a xs q
  frz := fun a u xs q => by rw [upd_ne (ne_of_none q hn)]; exact g.frz a u xs q
theorem MR.side (m : MR K as H M) {L : Addr} {xs : List V} {o : HO} (h : H L = some (.lst xs)) (n : L ∉ as) : MR K as (upd H L o) M :=
  m.keepv (Gv.side h) fun a ha => upd_ne fun z => n (by rw [← z]; exact ha)
/- such a list comes under the memory -/
theorem Gr.take (g : Gr as H as' H') {L : Addr} (hn : H L = none) (n : L ∉ as') : Gr as H (as' ++ [L]) H' where
  app := by
    obtain ⟨t, rfl⟩ := g.app
    exact ⟨t ++ [L], by simp⟩
  live := g.live
  keep := g.keep
  fresh := fun a q n => by
    rcases List.mem_append.mp q with q | q
    · exact g.fresh a q n
    · rw [List.mem_singleton.mp q]; exact hn
  tup := g.tup
  frz := g.frz
theorem MR.take (m : MR K as H M) {L : Addr} {xs : List V} {ds : List D} (h : H L = some (.lst xs)) (n : L ∉ as) (r : VRs K as H xs ds) : MR K (as ++ [L]) H (M ++ [.lst ds]) := by
  have gv : Gv as H (as ++ [L]) H := ⟨⟨[L], rfl⟩, fun _ _ q => q, fun _ _ _ q => q⟩
  refine ⟨by simp [m.len], ?_, fun i a c' h1 h2 => ?_⟩
  · rw [List.nodup_append]
    exact ⟨m.nd, by simp, fun a ha b hb z => by
      rw [List.mem_singleton.mp hb] at z
      subst z
      exact n ha⟩
  · by_cases hi : i < as.length
    · rw [List.getElem?_append_left hi] at h1
      rw [List.getElem?_append_left (by rw [← m.len]; exact hi)] at h2
      exact (m.cell i a c' h1 h2).gv gv rfl
    · have : i = as.length := by
        have := (List.getElem?_eq_some_iff.mp h1).1
        simp at this
        omega
      subst this
      rw [List.getElem?_append_right (Nat.le_refl _)] at h1
      rw [m.len, List.getElem?_append_right (Nat.le_refl _)] at h2
      simp at h1 h2
      subst h1 h2
      exact ⟨xs, h, r.gv gv⟩
end

/-! ### the mirror: slots, readings -/
def SR (K : Kx) (as : List Addr) (H : Hp) : L2.St → Rho → Prop := Paired fun o p => ∀ d, p = some d → ∃ v, o = some v ∧ VR K as H v d
abbrev FE := Rho → Mem → Option (D × Mem)
abbrev FT := Rho → Mem → Option (Bool × Mem)
abbrev FA := Rho → Mem → Option (List D × Mem)
section
variable {K : Kx} {as as' : List Addr} {H H' : Hp} {σ : L2.St} {ρ : Rho} {M M' : Mem}
theorem SR.gr (g : Gr as H as' H') : ∀ {σ : L2.St} {ρ : Rho}, SR K as H σ ρ → SR K as' H' σ ρ
  | _, _, .nil => .nil
  | _, _, .cons h t => .cons (fun d e => let ⟨v, h1, h2⟩ := h d e; ⟨v, h1, h2.gr g⟩) (SR.gr g t)
theorem SR.get : ∀ {σ : L2.St} {ρ : Rho} {i : Nat} {d : D}, SR K as H σ ρ → ρ[i]? = some (some d) → ∃ v, σ[i]? = some (some v) ∧ VR K as H v d
  | _, _, _, _, .nil, e => by simp at e
  | _, _, 0, d, .cons h _, e => by
    obtain ⟨v, h1, h2⟩ := h d (by simpa using e)
    subst h1
    exact ⟨v, rfl, h2⟩
  | _, _, i + 1, _, .cons _ t, e => by
    obtain ⟨v, h1, h2⟩ := SR.get (i := i) t (by simpa using e)
    exact ⟨v, by simpa using h1, h2⟩
theorem SR.set {v : V} {d : D} (r : VR K as H v d) : ∀ {σ : L2.St} {ρ : Rho} (i : Nat), SR K as H σ ρ → SR K as H (σ.set i (some v)) (ρ.set i (some d))
  | _, _, _, .nil => .nil
  | _, _, 0, .cons _ t => .cons (fun d' e => ⟨v, rfl, by cases e; exact r⟩) t
  | _, _, i + 1, .cons h t => .cons h (SR.set r i t)
theorem SR.unset : ∀ {σ : L2.St} {ρ : Rho} (i : Nat), SR K as H σ ρ → SR K as H (σ.set i none) (ρ.set i none)
  | _, _, _, .nil => .nil
  | _, _, 0, .cons _ t => .cons (fun d' e => by cases e) t
  | _, _, i + 1, .cons h t => .cons h (SR.unset i t)
theorem SR.some : ∀ {vs : List V} {ds : List D}, VRs K as H vs ds → SR K as H (vs.map some) (ds.map some)
  | _, _, .nil => .nil
  | _, _, .cons h hs => .cons (fun d e => ⟨_, rfl, by cases e; exact h⟩) (SR.some hs)
theorem SR.app : ∀ {σ τ : L2.St} {ρ θ : Rho}, SR K as H σ ρ → SR K as H τ θ → SR K as H (σ ++ τ) (ρ ++ θ)
  | _, _, _, _, .nil, s => s
  | _, _, _, _, .cons h t, s => .cons h (SR.app t s)
theorem SR.nones : ∀ n : Nat, SR K as H (List.replicate n none) (List.replicate n none)
  | 0 => .nil
  | n + 1 => .cons (fun d e => by cases e) (SR.nones n)
/- the slots at a def's entry -/
def startD (n : Nat) (ds : List D) : Rho := ds.map some ++ List.replicate (n - ds.length) none
theorem SR.start {N : List Str} {vs : List V} {ds : List D} (h : VRs K as H vs ds) : SR K as H (L2.start N vs) (startD N.length ds) := by
  unfold L2.start startD
  rw [← h.len]
  exact (SR.some h).app (SR.nones _)
def rE (K : Kx) (f : FE) : TE := fun σ H Q => ∃ as ρ M d M', SR K as H σ ρ ∧ MR K as H M ∧ f ρ M = some (d, M') ∧ ∀ v as' H', Gr as H as' H' → MR K as' H' M' → VR K as' H' v d → Q v H'
def rT (K : Kx) (f : FT) : TT := fun σ H Q => ∃ as ρ M b M', SR K as H σ ρ ∧ MR K as H M ∧ f ρ M = some (b, M') ∧ ∀ as' H', Gr as H as' H' → MR K as' H' M' → Q b H'
def rA (K : Kx) (f : FA) : TA := fun σ H Q => ∃ as ρ M ds M', SR K as H σ ρ ∧ MR K as H M ∧ f ρ M = some (ds, M') ∧ ∀ vs as' H', Gr as H as' H' → MR K as' H' M' → VRs K as' H' vs ds → Q vs H'
/- an operation on two values -/
abbrev G2 := D → D → Mem → Option (D × Mem)
def rO (K : Kx) (g : G2) : R2 := fun x y H Q => ∃ as M dx dy d M', MR K as H M ∧ VR K as H x dx ∧ VR K as H y dy ∧ g dx dy M = some (d, M') ∧ ∀ v as' H', Gr as H as' H' → MR K as' H' M' → VR K as' H' v d → Q v H'
abbrev G1 := D → Mem → Option (D × Mem)
def rU1 (K : Kx) (g : G1) : V → Hp → VK → Prop := fun x H Q => ∃ as M dx d M', MR K as H M ∧ VR K as H x dx ∧ g dx M = some (d, M') ∧ ∀ v as' H', Gr as H as' H' → MR K as' H' M' → VR K as' H' v d → Q v H'
abbrev GL := List D → Mem → Option (D × Mem)
def rL (K : Kx) (g : GL) : List V → Hp → VK → Prop := fun xs H Q => ∃ as M ds d M', MR K as H M ∧ VRs K as H xs ds ∧ g ds M = some (d, M') ∧ ∀ v as' H', Gr as H as' H' → MR K as' H' M' → VR K as' H' v d → Q v H'
def rM (K : Kx) (g : D → GL) : V → List V → Hp → VK → Prop := fun x xs H Q => ∃ as M dx ds d M', MR K as H M ∧ VR K as H x dx ∧ VRs K as H xs ds ∧ g dx ds M = some (d, M') ∧ ∀ v as' H', Gr as H as' H' → MR K as' H' M' → VR K as' H' v d → Q v H'
end
theorem pe_mono {X : Cx} {e : Expr} {t t' : TE} (h : PE X e t) (m : ∀ σ H Q, t' σ H Q → t σ H Q) : PE X e t' := ⟨fun pins s σ H Q I q => h.run pins s σ H Q I (m σ H Q q)⟩
theorem pt_mono {X : Cx} {e : Expr} {t t' : TT} (h : PT X e t) (m : ∀ σ H Q, t' σ H Q → t σ H Q) : PT X e t' := ⟨fun pins s σ H Q I q => h.run pins s σ H Q I (m σ H Q q)⟩
theorem pw_mono {X : Cx} {e : Expr} {t t' : TT} (h : PW X e t) (m : ∀ σ H Q, t' σ H Q → t σ H Q) : PW X e t' := ⟨fun wh pins s σ H Q I q => h.run wh pins s σ H Q I (m σ H Q q)⟩
theorem pts_mono {X : Cx} {e : List Expr} {t t' : TT} (h : PTs X e t) (m : ∀ σ H Q, t' σ H Q → t σ H Q) : PTs X e t' := ⟨fun pins s σ H Q I q => h.run pins s σ H Q I (m σ H Q q)⟩
theorem pa_mono {X : Cx} {e : List Expr} {t t' : TA} (h : PA X e t) (m : ∀ σ H Q, t' σ H Q → t σ H Q) : PA X e t' := ⟨fun pos pins s σ H Q I q => h.run pos pins s σ H Q I (m σ H Q q)⟩
theorem ps_mono {X : Cx} {e : Stmt} {t t' : TS} (h : PS X e t) (m : ∀ D σ H, t' D σ H → t D σ H) : PS X e t' := ⟨fun pins s σ H D I q => h.run pins s σ H D I (m D σ H q)⟩
theorem pss_mono {X : Cx} {e : List Stmt} {t t' : TS} (h : PSs X e t) (m : ∀ D σ H, t' D σ H → t D σ H) : PSs X e t' := ⟨fun pins s σ H D I q => h.run pins s σ H D I (m D σ H q)⟩
theorem pi_mono {X : Cx} {tg e : Expr} {t t' : TI} (h : PI X tg e t) (m : ∀ σ H R, t' σ H R → t σ H R) : PI X tg e t' := ⟨fun pins s σ H R I q => h.run pins s σ H R I (m σ H R q)⟩
theorem pg_mono {X : Cx} {e : Expr} {t t' : TG} (h : PG X e t) (m : ∀ v σ H Q, t' v σ H Q → t v σ H Q) : PG X e t' := ⟨fun pins s σ H v u Q I r q => h.run pins s σ H v u Q I r (m v σ H Q q)⟩
def SE (K : Kx) (X : Cx) (e : Expr) (f : FE) : Prop := X.K = K.K → X.calm = true → PE X e (rE K f)
def ST (K : Kx) (X : Cx) (e : Expr) (f : FT) : Prop := X.K = K.K → X.calm = true → PT X e (rT K f)
def SW (K : Kx) (X : Cx) (e : Expr) (f : FT) : Prop := X.K = K.K → X.calm = true → PW X e (rT K f)
def SA (K : Kx) (X : Cx) (es : List Expr) (f : FA) : Prop := X.K = K.K → X.calm = true → PA X es (rA K f)
/-! ### combinators -/
def fV (i : Nat) : FE := fun ρ M => ((ρ[i]?).bind id).map fun d => (d, M)
def fC (d : D) : FE := fun _ M => some (d, M)
def fO (g : G2) (fa fb : FE) : FE := fun ρ M => (fa ρ M).bind fun p => (fb ρ p.2).bind fun q => g p.1 q.1 q.2
def fU (g : G1) (fa : FE) : FE := fun ρ M => (fa ρ M).bind fun p => g p.1 p.2
def fNil : FA := fun _ M => some ([], M)
def fCons (fa : FE) (fr : FA) : FA := fun ρ M => (fa ρ M).bind fun p => (fr ρ p.2).bind fun q => some (p.1 :: q.1, q.2)
def fL (g : GL) (fa : FA) : FE := fun ρ M => (fa ρ M).bind fun p => g p.1 p.2
def fIf (c : FT) (fa fb : FE) : FE := fun ρ M => (c ρ M).bind fun p => if p.1 = true then fa ρ p.2 else fb ρ p.2
def tV (f : FE) : FT := fun ρ M => (f ρ M).bind fun p => match p.1 with
  | .bl b => some (b, p.2)
  | _ => none
def gTru : D → Mem → Option Bool
  | .non, _ => some false
  | .bl b, _ => some b
  | .int i, _ => some (i != 0)
  | .str x, _ => if x.length ≤ 100000 then some (x.length != 0) else none
  | .tup ds, _ => some !ds.isEmpty
  | .rol ds, _ => some !ds.isEmpty
  | .rf i, M => match M[i]? with
    | some (.lst ds) => some !ds.isEmpty
    | _ => none
  | _, _ => none
def tTr (f : FE) : FT := fun ρ M => (f ρ M).bind fun p => (gTru p.1 p.2).map fun b => (b, p.2)
def tAn (a b : FT) : FT := fun ρ M => (a ρ M).bind fun p => if p.1 = true then b ρ p.2 else some (false, p.2)
def tOr2 (a b : FT) : FT := fun ρ M => (a ρ M).bind fun p => if p.1 = true then some (true, p.2) else b ρ p.2
def tNo (a : FT) : FT := fun ρ M => (a ρ M).bind fun p => some (!p.1, p.2)
def fNotB (a : FE) : FE := fun ρ M => (a ρ M).bind fun p => match p.1 with
  | .bl b => some (.bl (!b), p.2)
  | _ => none
def fAnB (a b : FE) : FE := fun ρ M => (a ρ M).bind fun p => match p.1 with
  | .bl c => if c = true then b ρ p.2 else some (.bl false, p.2)
  | _ => none
def fOrB (a b : FE) : FE := fun ρ M => (a ρ M).bind fun p => match p.1 with
  | .bl c => if c = true then some (.bl true, p.2) else b ρ p.2
  | _ => none
def fTup (fa : FA) : FE := fun ρ M => (fa ρ M).bind fun p => if p.1.length ≤ 100000 then some (.tup p.1, p.2) else none
def fLst (fa : FA) : FE := fun ρ M => (fa ρ M).bind fun p => if p.1.length ≤ 100000 then some (.rf p.2.length, p.2 ++ [.lst p.1]) else none
def fCh (g g' : G2) (fa fb fc : FE) : FE := fun ρ M => (fa ρ M).bind fun p => (fb ρ p.2).bind fun q => (g p.1 q.1 q.2).bind fun r => match r.1 with
  | .bl k => if k = true then (fc ρ r.2).bind fun s => g' q.1 s.1 s.2 else some (.bl false, r.2)
  | _ => none
theorem lim_ok {n : Nat} (h : n ≤ 100000) : n ≤ sizeLine := Nat.le_trans h (by decide)
section
variable {K : Kx} {X : Cx} {a b c e : Expr} {es : List Expr} {fa fb fc : FE} {fr : FA} {ta tb : FT} {pos : Pos}
theorem SE.imp {t : TE} {f : FE} (h : X.K = K.K → X.calm = true → PE X e t) (m : ∀ σ H Q, rE K f σ H Q → t σ H Q) : SE K X e f := fun hK hc => pe_mono (h hK hc) m
theorem se_pv {i : Nat} (h : PE X e (tVar i)) : SE K X e (fV i) :=
  SE.imp (fun _ _ => h) fun σ H Q ⟨as, ρ, M, d, M', sr, mr, ev, k⟩ => by
    unfold fV at ev
    cases e : ρ[i]? with
    | none => rw [e] at ev; simp at ev
    | some o =>
      cases o with
      | none => rw [e] at ev; simp at ev
      | some d' =>
        rw [e] at ev
        simp at ev
        obtain ⟨rfl, rfl⟩ := ev
        obtain ⟨v, h1, h2⟩ := sr.get e
        exact ⟨v, h1, k v as H Gr.refl mr h2⟩
theorem se_c {v : V} {d : D} (h : PE X e (tC v)) (r : ∀ as H, VR K as H v d) : SE K X e (fC d) :=
  SE.imp (fun _ _ => h) fun σ H Q ⟨as, ρ, M, d', M', sr, mr, ev, k⟩ => by
    cases ev
    exact k v as H Gr.refl mr (r as H)
theorem se_int {i : Int} {j} : SE K X (.Constant (.int i) j pos) (fC (.int i)) := se_c pe_int fun _ _ => .int i
theorem se_bl {b : Bool} {j} : SE K X (.Constant (.bool b) j pos) (fC (.bl b)) := se_c pe_bl fun _ _ => .bl b
theorem se_non {j} : SE K X (.Constant .none j pos) (fC .non) := se_c pe_non fun _ _ => .non
theorem se_glob {x : Str} {v : V} {u : Value} {d : D} (hg : Gl X x) (hm : X.mg x = some u) (r : RelV v u) (rd : ∀ as H, VR K as H v d) (hd : (x == ("__debug__" : Str)) = false := by decide) : SE K X (.Name x pos) (fC d) := se_c (pe_glob hg hm r hd) rd
/- the two parts of an operation, one behind the other -/
theorem rE.two {g : G2} {σ : L2.St} {H : Hp} {Q : VK} (h : rE K (fO g fa fb) σ H Q) : tOp (rO K g) (rE K fa) (rE K fb) σ H Q := by
  obtain ⟨as, ρ, M, d, M', sr, mr, ev, k⟩ := h
  unfold fO at ev
  obtain ⟨⟨x, M1⟩, e1, ev⟩ := Option.bind_eq_some_iff.mp ev
  obtain ⟨⟨y, M2⟩, e2, ev⟩ := Option.bind_eq_some_iff.mp ev
  refine ⟨as, ρ, M, x, M1, sr, mr, e1, fun v as1 H1 g1 m1 r1 => ⟨as1, ρ, M1, y, M2, sr.gr g1, m1, e2, fun u as2 H2 g2 m2 r2 => ?_⟩⟩
  exact ⟨as2, M2, x, y, d, M', m2, r1.gr g2, r2, ev, fun w as3 H3 g3 m3 r3 => k w as3 H3 ((g1.trans g2).trans g3) m3 r3⟩
theorem se_op {op : Operator} {g : G2} (ho : X.K = K.K → OpR X (binaryOp op) (rO K g)) (ha : SE K X a fa) (hb : SE K X b fb) : SE K X (.BinOp a op b pos) (fO g fa fb) :=
  SE.imp (fun hK hc => pe_op (ho hK) (ha hK hc) (hb hK hc)) fun _ _ _ => rE.two
theorem se_cmp {op : CmpOp} {g : G2} (ho : X.K = K.K → OpR X (compareOp op) (rO K g)) (ha : SE K X a fa) (hb : SE K X b fb) (hm : behindInMarks op b = false) : SE K X (.Compare a [op] [b] pos) (fO g fa fb) :=
  SE.imp (fun hK hc => pe_cmpR (ho hK) (ha hK hc) (hb hK hc) hm) fun _ _ _ => rE.two
theorem se_ix {g : G2} (hr : X.K = K.K → IxR X (rO K g)) (ha : SE K X a fa) (hb : SE K X b fb) (hs : PlainIx b) : SE K X (.Subscript a b pos) (fO g fa fb) :=
  SE.imp (fun hK hc => pe_ix (hr hK) (ha hK hc) (hb hK hc) hs) fun _ _ _ => rE.two
theorem se_un {op : UnaryOp} {g : G1} (ho : X.K = K.K → UnR X (unaryOp op) (rU1 K g)) (ha : SE K X a fa) : SE K X (.UnaryOp op a pos) (fU g fa) :=
  SE.imp (fun hK hc => pe_un (ho hK) (ha hK hc)) fun σ H Q ⟨as, ρ, M, d, M', sr, mr, ev, k⟩ => by
    unfold fU at ev
    obtain ⟨⟨x, M1⟩, e1, ev⟩ := Option.bind_eq_some_iff.mp ev
    exact ⟨as, ρ, M, x, M1, sr, mr, e1, fun v as1 H1 g1 m1 r1 => ⟨as1, M1, x, d, M', m1, r1, ev, fun w as3 H3 g3 m3 r3 => k w as3 H3 (g1.trans g3) m3 r3⟩⟩
theorem sa_nil : SA K X [] fNil := fun _ _ => pa_mono pa_nil fun σ H Q ⟨as, ρ, M, ds, M', sr, mr, ev, k⟩ => by
  cases ev
  exact k [] as H Gr.refl mr .nil
theorem sa_cons (ha : SE K X e fa) (hr : SA K X es fr) (hs : starEach (e :: es) X.env = (false, eval e X.env) :: starEach es X.env := by rfl) : SA K X (e :: es) (fCons fa fr) :=
  fun hK hc => pa_mono (pa_cons (ha hK hc) (hr hK hc) hs) fun σ H Q ⟨as, ρ, M, ds, M', sr, mr, ev, k⟩ => by
    unfold fCons at ev
    obtain ⟨⟨x, M1⟩, e1, ev⟩ := Option.bind_eq_some_iff.mp ev
    obtain ⟨⟨y, M2⟩, e2, ev⟩ := Option.bind_eq_some_iff.mp ev
    cases ev
    exact ⟨as, ρ, M, x, M1, sr, mr, e1, fun v as1 H1 g1 m1 r1 => ⟨as1, ρ, M1, y, _, sr.gr g1, m1, e2, fun us as2 H2 g2 m2 r2 => k _ as2 H2 (g1.trans g2) m2 (.cons (r1.gr g2) r2)⟩⟩
theorem se_tup {x1} (h : SA K X es fr) : SE K X (.Tuple es x1 pos) (fTup fr) :=
  SE.imp (fun hK hc => pe_tup (h hK hc)) fun σ H Q ⟨as, ρ, M, d, M', sr, mr, ev, k⟩ => by
    unfold fTup at ev
    obtain ⟨⟨ds, M1⟩, e1, ev⟩ := Option.bind_eq_some_iff.mp ev
    dsimp only at ev
    split at ev
    · rename_i hl
      cases ev
      refine ⟨as, ρ, M, ds, _, sr, mr, e1, fun vs as1 H1 g1 m1 r1 => ⟨lim_ok (by rw [r1.len]; exact hl), fun p hp => ?_⟩⟩
      have gn : Gr as1 H1 as1 (upd H1 p (.tup vs)) := Gr.new hp
      exact k _ as1 _ (g1.trans gn) (m1.new hp) (.tup (.inl upd_same) (r1.gr gn))
    · cases ev
theorem se_lst (h : SA K X es fr) : SE K X (.List es pos) (fLst fr) :=
  SE.imp (fun hK hc => pe_lst (h hK hc)) fun σ H Q ⟨as, ρ, M, d, M', sr, mr, ev, k⟩ => by
    unfold fLst at ev
    obtain ⟨⟨ds, M1⟩, e1, ev⟩ := Option.bind_eq_some_iff.mp ev
    dsimp only at ev
    split at ev
    · rename_i hl
      cases ev
      refine ⟨as, ρ, M, ds, _, sr, mr, e1, fun vs as1 H1 g1 m1 r1 => ⟨lim_ok (by rw [r1.len]; exact hl), fun p hp => ?_⟩⟩
      have gn : Gr as1 H1 (as1 ++ [p]) (upd H1 p (.lst vs)) := Gr.alloc hp
      exact k _ _ _ (g1.trans gn) (m1.alloc hp ⟨vs, upd_same, r1.gr gn⟩) (.rf (by rw [← m1.len]; simp))
    · cases ev
theorem se_if (hc : ST K X c ta) (ha : SE K X a fa) (hb : SE K X b fb) : SE K X (.IfExp c a b pos) (fIf ta fa fb) :=
  SE.imp (fun hK hq => pe_ifExp (hc hK hq) (ha hK hq) (hb hK hq)) fun σ H Q ⟨as, ρ, M, d, M', sr, mr, ev, k⟩ => by
    unfold fIf at ev
    obtain ⟨⟨x, M1⟩, e1, ev⟩ := Option.bind_eq_some_iff.mp ev
    refine ⟨as, ρ, M, x, M1, sr, mr, e1, fun as1 H1 g1 m1 => ?_⟩
    cases x with
    | true => exact ⟨as1, ρ, M1, d, M', sr.gr g1, m1, by simpa using ev, fun v as2 H2 g2 m2 r2 => k v as2 H2 (g1.trans g2) m2 r2⟩
    | false => exact ⟨as1, ρ, M1, d, M', sr.gr g1, m1, by simpa using ev, fun v as2 H2 g2 m2 r2 => k v as2 H2 (g1.trans g2) m2 r2⟩
/-! tests -/
theorem st_cmp {op : CmpOp} {g : G2} (ho : X.K = K.K → OpR X (compareOp op) (rO K g)) (ha : SE K X a fa) (hb : SE K X b fb) (hm : behindInMarks op b = false) : ST K X (.Compare a [op] [b] pos) (tV (fO g fa fb)) :=
  fun hK hc => pt_mono (pt_cmpR (ho hK) (ha hK hc) (hb hK hc) hm) fun σ H Q ⟨as, ρ, M, d, M', sr, mr, ev, k⟩ => by
    unfold tV at ev
    obtain ⟨⟨x, M1⟩, e1, ev⟩ := Option.bind_eq_some_iff.mp ev
    refine rE.two ⟨as, ρ, M, x, M1, sr, mr, e1, fun v as1 H1 g1 m1 r1 => ?_⟩
    cases x with
    | bl b =>
      cases ev
      cases r1
      exact ⟨_, rfl, k as1 H1 g1 m1⟩
    | _ => cases ev
theorem tru_of {K : Kx} {as : List Addr} {H : Hp} {M : Mem} (m : MR K as H M) {v : V} {x : D} {b : Bool} (r : VR K as H v x) (e : gTru x M = some b) : TruV K.K v H b := by
  cases r with
  | non => cases e; rfl
  | bl b => cases e; rfl
  | int i => cases e; rfl
  | str z =>
    simp only [gTru] at e
    split at e
    · rename_i hl
      cases e
      exact ⟨lim_ok hl, by rw [Bool.eq_iff_iff]; simp⟩
    · cases e
  | ty n => cases e
  | fn a => cases e
  | tup h hs => cases e; exact .inr (.inl ⟨_, h.sq, by rw [hs.isEmpty]⟩)
  | rol h hs => cases e; exact .inl ⟨_, h.sq, by rw [hs.isEmpty]⟩
  | @rf i ad h =>
    simp only [gTru] at e
    split at e
    · rename_i ds hc
      cases e
      obtain ⟨xs, q, r⟩ := m.cell i ad _ h hc
      exact .inl ⟨xs, SqL.of q, by rw [r.isEmpty]⟩
    · cases e
theorem st_tru (h : SE K X e fa) (he : ∀ whole, isTrue e X.env whole = (do let v ← whole; standAt e.pos; holding [v] (truthy v))) : ST K X e (tTr fa) :=
  fun hK hc => pt_mono (pt_truth (h hK hc) he) fun σ H Q ⟨as, ρ, M, d, M', sr, mr, ev, k⟩ => by
    obtain ⟨_, Γ⟩ := K
    cases hK
    unfold tTr at ev
    obtain ⟨⟨x, M1⟩, e1, ev⟩ := Option.bind_eq_some_iff.mp ev
    obtain ⟨b, e2, ev⟩ := Option.map_eq_some_iff.mp ev
    cases ev
    exact ⟨as, ρ, M, x, M1, sr, mr, e1, fun v as1 H1 g1 m1 r1 => ⟨_, tru_of m1 r1 e2, k as1 H1 g1 m1⟩⟩
theorem sw_pt {f : FT} (h : SW K X e f) : ST K X e f := fun hK hc => (h hK hc).pt
theorem rT.two {ta tb : FT} {σ : L2.St} {H : Hp} {Q : Bool → Hp → Prop} (h : rT K (tAn ta tb) σ H Q) : tAnd (rT K ta) (rT K tb) σ H Q := by
  obtain ⟨as, ρ, M, b, M', sr, mr, ev, k⟩ := h
  unfold tAn at ev
  obtain ⟨⟨x, M1⟩, e1, ev⟩ := Option.bind_eq_some_iff.mp ev
  refine ⟨as, ρ, M, x, M1, sr, mr, e1, fun as1 H1 g1 m1 => ?_⟩
  cases x with
  | true =>
    rw [if_pos rfl] at ev ⊢
    exact ⟨as1, ρ, M1, b, M', sr.gr g1, m1, ev, fun as2 H2 g2 m2 => k as2 H2 (g1.trans g2) m2⟩
  | false =>
    rw [if_neg (fun z => nomatch z)] at ev ⊢
    cases ev
    exact k as1 H1 g1 m1
theorem rT.twoO {ta tb : FT} {σ : L2.St} {H : Hp} {Q : Bool → Hp → Prop} (h : rT K (tOr2 ta tb) σ H Q) : tOr (rT K ta) (rT K tb) σ H Q := by
  obtain ⟨as, ρ, M, b, M', sr, mr, ev, k⟩ := h
  unfold tOr2 at ev
  obtain ⟨⟨x, M1⟩, e1, ev⟩ := Option.bind_eq_some_iff.mp ev
  refine ⟨as, ρ, M, x, M1, sr, mr, e1, fun as1 H1 g1 m1 => ?_⟩
  cases x with
  | true =>
    rw [if_pos rfl] at ev ⊢
    cases ev
    exact k as1 H1 g1 m1
  | false =>
    rw [if_neg (fun z => nomatch z)] at ev ⊢
    exact ⟨as1, ρ, M1, b, M', sr.gr g1, m1, ev, fun as2 H2 g2 m2 => k as2 H2 (g1.trans g2) m2⟩
variable {rest : List Expr}
theorem sw_or1 (ha : ST K X a ta) : SW K X (.BoolOp .Or [a] pos) ta := fun hK hc => pw_or1 (ha hK hc)
theorem sw_or (ha : ST K X a ta) (hb : SW K X (.BoolOp .Or (b :: rest) pos) tb) : SW K X (.BoolOp .Or (a :: b :: rest) pos) (tOr2 ta tb) := fun hK hc => pw_mono (pw_or (ha hK hc) (hb hK hc)) fun _ _ _ => rT.twoO
end

/-! ### operators -/
/- products whose sizes are within the line -/
def MulOk (i j : Int) : Prop := ∃ m n : Nat, i.natAbs < 2 ^ m ∧ j.natAbs < 2 ^ n ∧ m + n ≤ 134217728
open Classical in
noncomputable def gMul : G2
  | .int i, .int j, M => if MulOk i j then some (.int (i * j), M) else none
  | .tup ds, .int k, M => if 2 ≤ k ∧ k ≤ 1000 ∧ ds ≠ [] ∧ ds.length ≤ 100 then some (.tup (List.replicate k.toNat ds).flatten, M) else none
  | .rf l, .int k, M => match M[l]? with
    | some (.lst ds) => if 0 ≤ k ∧ k ≤ 1000 ∧ ds.length ≤ 100 then some (.rf M.length, M ++ [.lst (List.replicate k.toNat ds).flatten]) else none
    | _ => none
  | _, _, _ => none
def gAdd : G2
  | .int i, .int j, M => some (.int (i + j), M)
  | .str a, .str b, M => if a.length + b.length ≤ 100000 then some (.str (a ++ b), M) else none
  | .tup a, .tup b, M => if a.length + b.length ≤ 100000 then some (.tup (a ++ b), M) else none
  | .rf i, .rf j, M => match M[i]?, M[j]? with
    | some (.lst a), some (.lst b) => if a.length + b.length ≤ 100000 then some (.rf M.length, M ++ [.lst (a ++ b)]) else none
    | _, _ => none
  | _, _, _ => none
def gSub : G2
  | .int i, .int j, M => some (.int (i - j), M)
  | _, _, _ => none
open Classical in
noncomputable def gFd : G2
  | .int i, .int j, M => if j ≠ 0 ∧ Bt 9000 j then some (.int (i.fdiv j), M) else none
  | _, _, _ => none
def gMod : G2
  | .int i, .int j, M => if j ≠ 0 then some (.int (i.fmod j), M) else none
  | _, _, _ => none
def gPow : G2
  | .int i, .int j, M => if 0 ≤ j ∧ j ≤ 1000000 ∧ i.natAbs < 2 ^ 64 then some (.int (i ^ j.toNat), M) else none
  | _, _, _ => none
def gNeg : G1
  | .int i, M => some (.int (-i), M)
  | _, _ => none
def gCmp (p : Int → Int → Bool) : G2
  | .int i, .int j, M => some (.bl (p i j), M)
  | _, _, _ => none
abbrev gLt : G2 := gCmp fun i j => decide (i < j)
abbrev gGt : G2 := gCmp fun i j => decide (j < i)
abbrev gGe : G2 := gCmp fun i j => decide (j ≤ i)
def D.isNon : D → Bool
  | .non => true
  | _ => false
/- x is None -/
def gIsN : G2
  | d, .non, M => some (.bl d.isNon, M)
  | _, _, _ => none
def gNotN : G2
  | d, .non, M => some (.bl (!d.isNon), M)
  | _, _, _ => none
mutual
/- data as the library's data -/
def D.py : D → Option PyData
  | .non => some .none
  | .bl b => some (.bool b)
  | .int i => some (.int i)
  | .str x => some (.str x)
  | .tup ds => (D.pys ds).map .tuple
  | .rol ds => (D.pys ds).map .list
  | _ => none
def D.pys : List D → Option (List PyData)
  | [] => some []
  | d :: ds => (D.py d).bind fun p => (D.pys ds).map fun r => p :: r
end
def toPy (M : Mem) : D → Option PyData
  | .rf i => match M[i]? with
    | some (.lst ds) => (D.pys ds).map .list
    | _ => none
  | d => d.py
def gEqB (neg : Bool) : G2 := fun x y M => (toPy M x).bind fun d => (toPy M y).bind fun e => if SeqAt.shaped d = true ∧ SeqAt.shaped e = true then some (.bl (if neg then !PyData.eqv d e else PyData.eqv d e), M) else none
abbrev gEq : G2 := gEqB false
abbrev gNe : G2 := gEqB true
/- x[i] -/
def gIx : G2
  | .tup ds, .int i, M => (atI ds i).map fun d => (d, M)
  | .rol ds, .int i, M => (atI ds i).map fun d => (d, M)
  | .str z, .int i, M => if z.length ≤ 100000 then (atI z.cps.toList i).map fun c => (.str ⟨#[c]⟩, M) else none
  | .rf l, .int i, M => match M[l]? with
    | some (.lst ds) => (atI ds i).map fun d => (d, M)
    | _ => none
  | _, _, _ => none
section
variable {K : Kx} {X : Cx} {as : List Addr} {H : Hp} {M : Mem}
theorem VRs.atI {vs : List V} {ds : List D} {i : Int} {d : D} (h : VRs K as H vs ds) (e : atI ds i = some d) : ∃ v, L2.atI vs i = some v ∧ VR K as H v d := by
  unfold L2.atI at e ⊢
  rw [h.len]
  obtain ⟨j, e1, e2⟩ := Option.bind_eq_some_iff.mp e
  obtain ⟨v, e3, r⟩ := h.get e2
  exact ⟨v, by rw [e1]; exact e3, r⟩
theorem MR.lst (m : MR K as H M) {i : Nat} {a : Addr} {ds : List D} (h : as[i]? = some a) (e : M[i]? = some (.lst ds)) : ∃ xs, H a = some (.lst xs) ∧ VRs K as H xs ds := m.cell i a _ h e
theorem or_sub : X.K = K.K → OpR X (binaryOp .Sub) (rO K gSub) := fun _ pins s σ H x y v u Q I r1 r2 ⟨as, M, dx, dy, d, M', m, q1, q2, ev, k⟩ => by
  cases q1 <;> cases q2 <;> first | cases ev | skip
  exact op_sub pins s σ H _ _ v u Q I r1 r2 ⟨_, _, rfl, rfl, k _ as H Gr.refl m (.int _)⟩
theorem or_add : X.K = K.K → OpR X (binaryOp .Add) (rO K gAdd) := fun hK pins s σ H x y v u Q I r1 r2 hh => by
  obtain ⟨_, Γ⟩ := K
  cases hK
  obtain ⟨as, M, dx, dy, d, M', m, q1, q2, ev, k⟩ := hh
  cases q1 with
  | int i =>
    cases q2 with
    | int j =>
      cases ev
      exact op_add pins s σ H _ _ v u Q I r1 r2 ⟨_, _, rfl, rfl, k _ as H Gr.refl m (.int _)⟩
    | _ => cases ev
  | str a =>
    cases q2 with
    | str b =>
      simp only [gAdd] at ev
      split at ev
      · rename_i hl
        cases ev
        exact op_add_str pins s σ H _ _ v u Q I r1 r2 ⟨_, _, rfl, rfl, lim_ok hl, k _ as H Gr.refl m (.str _)⟩
      · cases ev
    | _ => cases ev
  | @tup a1 xs ds h1 hs1 =>
    cases q2 with
    | @tup a2 ys es h2 hs2 =>
      simp only [gAdd] at ev
      split at ev
      · rename_i hl
        cases ev
        refine op_catA pins s σ H _ _ v u Q I r1 r2 ⟨_, _, xs, ys, rfl, rfl, h1.sq, h2.sq, lim_ok (by rw [hs1.len, hs2.len]; exact hl), fun z => ?_, fun z1 z2 => ?_, fun z1 z2 p hp => ?_⟩
        · have z' := hs1.nil_iff.mp z
          subst z'
          exact k _ as H Gr.refl m (.tup h2 hs2)
        · have z' := hs2.nil_iff.mp z2
          subst z'
          exact k _ as H Gr.refl m (.tup h1 (by simpa using hs1))
        · have g : Gr as H as (upd H p (.tup (xs ++ ys))) := Gr.new hp
          exact k _ as _ g (m.new hp) (.tup (.inl upd_same) ((hs1.append hs2).gr g))
      · cases ev
    | _ => cases ev
  | @rf i1 a1 h1 =>
    cases q2 with
    | @rf i2 a2 h2 =>
      simp only [gAdd] at ev
      split at ev
      · rename_i d1 d2 e1 e2
        split at ev
        · rename_i hl
          cases ev
          obtain ⟨xs, p1, hs1⟩ := m.lst h1 e1
          obtain ⟨ys, p2, hs2⟩ := m.lst h2 e2
          refine op_cat pins s σ H _ _ v u Q I r1 r2 ⟨_, _, xs, ys, rfl, rfl, p1, p2, lim_ok (by rw [hs1.len, hs2.len]; exact hl), fun p hp => ?_⟩
          have g : Gr as H (as ++ [p]) (upd H p (.lst (xs ++ ys))) := Gr.alloc hp
          exact k _ _ _ g (m.alloc hp ⟨_, upd_same, (hs1.append hs2).gr g⟩) (.rf (by rw [← m.len]; simp))
        · cases ev
      · cases ev
    | _ => cases ev
  | _ => cases ev
theorem or_mul : X.K = K.K → OpR X (binaryOp .Mult) (rO K gMul) := fun hK pins s σ H x y v u Q I r1 r2 hh => by
  obtain ⟨_, Γ⟩ := K
  cases hK
  obtain ⟨as, M, dx, dy, d, M', m, q1, q2, ev, k⟩ := hh
  cases q1 with
  | int i =>
    cases q2 with
    | int j =>
      simp only [gMul] at ev
      split at ev
      · rename_i hl
        cases ev
        obtain ⟨m1, n1, h1, h2, h3⟩ := hl
        exact op_mulX pins s σ H _ _ v u Q I r1 r2 ⟨_, _, rfl, rfl, mulx_ok h1 h2 h3, k _ as H Gr.refl m (.int _)⟩
      · cases ev
    | _ => cases ev
  | @tup a1 xs d1 h1 hs1 =>
    cases q2 with
    | int kk =>
      simp only [gMul] at ev
      split at ev
      · rename_i hl
        obtain ⟨l1, l2, l3, l4⟩ := hl
        cases ev
        refine op_repT pins s σ H _ _ v u Q I r1 r2 ⟨_, _, xs, rfl, rfl, h1.sq, fun z => l3 (hs1.nil_iff.mp z), l1, l2, by rw [hs1.len]; omega, fun p hp => ?_⟩
        have g : Gr as H as (upd H p (.tup (List.replicate kk.toNat xs).flatten)) := Gr.new hp
        have hf : ∀ n, VRs ⟨X.K, Γ⟩ as (upd H p (.tup (List.replicate kk.toNat xs).flatten)) (List.replicate n xs).flatten (List.replicate n d1).flatten := fun n => by
          induction n with
          | zero => exact .nil
          | succ n ih =>
            rw [List.replicate_succ, List.replicate_succ, List.flatten_cons, List.flatten_cons]
            exact (hs1.gr g).append ih
        exact k _ _ _ g (m.new hp) (.tup (.inl upd_same) (hf _))
      · cases ev
    | _ => cases ev
  | @rf i1 a1 h1 =>
    cases q2 with
    | int kk =>
      simp only [gMul] at ev
      split at ev
      · rename_i d1 e1
        split at ev
        · rename_i hl
          obtain ⟨l1, l2, l3⟩ := hl
          cases ev
          obtain ⟨xs, p1, hs1⟩ := m.lst h1 e1
          have hz : xs.length * kk.toNat ≤ 100000 := by
            rw [hs1.len]
            exact Nat.le_trans (Nat.mul_le_mul l3 (show kk.toNat ≤ 1000 by omega)) (by decide)
          refine op_rep pins s σ H _ _ v u Q I r1 r2 ⟨_, _, xs, rfl, rfl, p1, by omega, by omega, lim_ok hz, fun p hp => ?_⟩
          have g : Gr as H (as ++ [p]) (upd H p (.lst (List.replicate kk.toNat xs).flatten)) := Gr.alloc hp
          have hf : ∀ n, VRs ⟨X.K, Γ⟩ (as ++ [p]) (upd H p (.lst (List.replicate kk.toNat xs).flatten)) (List.replicate n xs).flatten (List.replicate n d1).flatten := fun n => by
            induction n with
            | zero => exact .nil
            | succ n ih =>
              rw [List.replicate_succ, List.replicate_succ, List.flatten_cons, List.flatten_cons]
              exact (hs1.gr g).append ih
          exact k _ _ _ g (m.alloc hp ⟨_, upd_same, hf _⟩) (.rf (by rw [← m.len]; simp))
        · cases ev
      · cases ev
    | _ => cases ev
  | _ => cases ev
theorem or_fd : X.K = K.K → OpR X (binaryOp .FloorDiv) (rO K gFd) := fun _ pins s σ H x y v u Q I r1 r2 ⟨as, M, dx, dy, d, M', m, q1, q2, ev, k⟩ => by
  cases q1 <;> cases q2 <;> first | (simp only [gFd] at ev; first | cases ev | skip) | skip
  split at ev
  · rename_i hl
    cases ev
    exact op_fdX pins s σ H _ _ v u Q I r1 r2 ⟨_, _, rfl, rfl, hl, k _ as H Gr.refl m (.int _)⟩
  · cases ev
theorem or_mod : X.K = K.K → OpR X (binaryOp .Mod) (rO K gMod) := fun _ pins s σ H x y v u Q I r1 r2 ⟨as, M, dx, dy, d, M', m, q1, q2, ev, k⟩ => by
  cases q1 <;> cases q2 <;> first | (simp only [gMod] at ev; first | cases ev | skip) | skip
  split at ev
  · rename_i hl
    cases ev
    exact op_modN pins s σ H _ _ v u Q I r1 r2 ⟨_, _, rfl, rfl, hl, k _ as H Gr.refl m (.int _)⟩
  · cases ev
theorem or_pow : X.K = K.K → OpR X (binaryOp .Pow) (rO K gPow) := fun _ pins s σ H x y v u Q I r1 r2 ⟨as, M, dx, dy, d, M', m, q1, q2, ev, k⟩ => by
  cases q1 <;> cases q2 <;> first | (simp only [gPow] at ev; first | cases ev | skip) | skip
  split at ev
  · rename_i hl
    cases ev
    exact op_pow pins s σ H _ _ v u Q I r1 r2 ⟨_, _, rfl, rfl, hl, k _ as H Gr.refl m (.int _)⟩
  · cases ev
theorem ur_neg : X.K = K.K → UnR X (unaryOp .USub) (rU1 K gNeg) := fun _ pins s σ H x v Q I r1 ⟨as, M, dx, d, M', m, q1, ev, k⟩ => by
  cases q1 <;> first | cases ev | skip
  exact un_neg pins s σ H _ v Q I r1 ⟨_, rfl, k _ as H Gr.refl m (.int _)⟩
theorem or_cmp {op : CmpOp} {p : Int → Int → Bool} (h : OpR X (compareOp op) (rI0 fun i j => .bl (p i j))) : X.K = K.K → OpR X (compareOp op) (rO K (gCmp p)) := fun _ pins s σ H x y v u Q I r1 r2 ⟨as, M, dx, dy, d, M', m, q1, q2, ev, k⟩ => by
  cases q1 <;> cases q2 <;> first | cases ev | skip
  exact h pins s σ H _ _ v u Q I r1 r2 ⟨_, _, rfl, rfl, k _ as H Gr.refl m (.bl _)⟩
theorem or_lt : X.K = K.K → OpR X (compareOp .Lt) (rO K gLt) := or_cmp op_lt
theorem or_gt : X.K = K.K → OpR X (compareOp .Gt) (rO K gGt) := or_cmp op_gt
theorem or_ge : X.K = K.K → OpR X (compareOp .GtE) (rO K gGe) := or_cmp op_ge
theorem VR.isNon {v : V} {d : D} (h : VR K as H v d) : decide (v = .non) = d.isNon := by
  cases h <;> rfl
theorem or_isN : X.K = K.K → OpR X (compareOp .Is) (rO K gIsN) := fun _ pins s σ H x y v u Q I r1 r2 ⟨as, M, dx, dy, d, M', m, q1, q2, ev, k⟩ => by
  cases q2 <;> first | (simp only [gIsN] at ev; first | cases ev | skip) | skip
  exact op_isN pins s σ H _ _ v u Q I r1 r2 ⟨rfl, by rw [q1.isNon]; exact k _ as H Gr.refl m (.bl _)⟩
mutual
theorem VR.dp : ∀ {v : V} {d : D} {p : PyData}, VR K as H v d → d.py = some p → Dp K.K H v p
  | _, _, _, .non, e => by cases e; exact .non
  | _, _, _, .bl b, e => by cases e; exact .bl b
  | _, _, _, .int b, e => by cases e; exact .int b
  | _, _, _, .str b, e => by cases e; exact .str b
  | _, _, _, .ty b, e => by cases e
  | _, _, _, .fn b, e => by cases e
  | _, _, _, .tup h hs, e => by
    simp only [D.py, Option.map_eq_some_iff] at e
    obtain ⟨ps, e1, rfl⟩ := e
    exact .tup h.sq (VRs.dp hs e1)
  | _, _, _, .rol h hs, e => by
    simp only [D.py, Option.map_eq_some_iff] at e
    obtain ⟨ps, e1, rfl⟩ := e
    exact .lst h.sq (VRs.dp hs e1)
  | _, _, _, .rf h, e => by cases e
theorem VRs.dp : ∀ {vs : List V} {ds : List D} {ps : List PyData}, VRs K as H vs ds → D.pys ds = some ps → DpAll K.K H vs ps
  | _, _, _, .nil, e => by cases e; exact .nil
  | _, _, _, .cons h hs, e => by
    simp only [D.pys, Option.bind_eq_some_iff, Option.map_eq_some_iff] at e
    obtain ⟨p, e1, r, e2, rfl⟩ := e
    exact .cons (VR.dp h e1) (VRs.dp hs e2)
end
theorem VR.dpM (m : MR K as H M) {v : V} {d : D} {p : PyData} (h : VR K as H v d) (e : toPy M d = some p) : Dp K.K H v p := by
  cases h with
  | @rf i a h =>
    simp only [toPy] at e
    split at e
    · rename_i ds hc
      obtain ⟨ps, e1, rfl⟩ := Option.map_eq_some_iff.mp e
      obtain ⟨xs, p1, hs⟩ := m.lst h hc
      exact .lst (SqL.of p1) (VRs.dp hs e1)
    · cases e
  | non => exact VR.dp (as := as) .non e
  | bl b => exact VR.dp (as := as) (.bl b) e
  | int b => exact VR.dp (as := as) (.int b) e
  | str b => exact VR.dp (as := as) (.str b) e
  | ty b => exact VR.dp (as := as) (.ty b) e
  | fn b => exact VR.dp (as := as) (.fn b) e
  | tup h hs => exact VR.dp (as := as) (.tup h hs) e
  | rol h hs => exact VR.dp (as := as) (.rol h hs) e
theorem or_eq (hu : X.A.units + 64 < cLine) : X.K = K.K → OpR X (compareOp .Eq) (rO K gEq) := fun hK pins s σ H x y v u Q I r1 r2 ⟨as, M, dx, dy, d, M', m, q1, q2, ev, k⟩ => by
  obtain ⟨_, Γ⟩ := K
  cases hK
  simp only [gEqB, Option.bind_eq_some_iff] at ev
  obtain ⟨a, e1, b, e2, ev⟩ := ev
  split at ev
  · rename_i hs
    cases ev
    exact op_eqD hu pins s σ H _ _ v u Q I r1 r2 ⟨a, b, q1.dpM m e1, q2.dpM m e2, hs.1, hs.2, k _ as H Gr.refl m (.bl _)⟩
  · cases ev
theorem or_ne (hu : X.A.units + 64 < cLine) : X.K = K.K → OpR X (compareOp .NotEq) (rO K gNe) := fun hK pins s σ H x y v u Q I r1 r2 ⟨as, M, dx, dy, d, M', m, q1, q2, ev, k⟩ => by
  obtain ⟨_, Γ⟩ := K
  cases hK
  simp only [gEqB, Option.bind_eq_some_iff] at ev
  obtain ⟨a, e1, b, e2, ev⟩ := ev
  split at ev
  · rename_i hs
    cases ev
    exact op_neD hu pins s σ H _ _ v u Q I r1 r2 ⟨a, b, q1.dpM m e1, q2.dpM m e2, hs.1, hs.2, k _ as H Gr.refl m (.bl _)⟩
  · cases ev
theorem xr_ix : X.K = K.K → IxR X (rO K gIx) := fun hK a b pins s σ H x y v u Q I r1 r2 hh hp => by
  obtain ⟨_, Γ⟩ := K
  cases hK
  obtain ⟨as, M, dx, dy, d, M', m, q1, q2, ev, k⟩ := hh
  cases q1 with
  | str z =>
    cases q2 with
    | int i =>
      simp only [gIx] at ev
      split at ev
      · rename_i hl
        obtain ⟨c, e1, ev⟩ := Option.map_eq_some_iff.mp ev
        cases ev
        exact ix_str a b pins s σ H _ _ v u Q I r1 r2 ⟨_, _, c, rfl, rfl, lim_ok hl, e1, k _ as H Gr.refl m (.str _)⟩ hp
      · cases ev
    | _ => cases ev
  | tup h1 hs1 =>
    cases q2 with
    | int i =>
      obtain ⟨d', e1, ev⟩ := Option.map_eq_some_iff.mp ev
      cases ev
      obtain ⟨v1, e2, r⟩ := hs1.atI e1
      exact ix_tup a b pins s σ H _ _ v u Q I r1 r2 ⟨_, _, _, v1, rfl, rfl, h1.sq, e2, k _ as H Gr.refl m r⟩ hp
    | _ => cases ev
  | rol h1 hs1 =>
    cases q2 with
    | int i =>
      obtain ⟨d', e1, ev⟩ := Option.map_eq_some_iff.mp ev
      cases ev
      obtain ⟨v1, e2, r⟩ := hs1.atI e1
      exact ix_list a b pins s σ H _ _ v u Q I r1 r2 ⟨_, _, _, v1, rfl, rfl, h1.sq, e2, k _ as H Gr.refl m r⟩ hp
    | _ => cases ev
  | @rf i1 a1 h1 =>
    cases q2 with
    | int i =>
      simp only [gIx] at ev
      split at ev
      · rename_i ds hc
        obtain ⟨d', e1, ev⟩ := Option.map_eq_some_iff.mp ev
        cases ev
        obtain ⟨xs, p1, hs⟩ := m.lst h1 hc
        obtain ⟨v1, e2, r⟩ := hs.atI e1
        exact ix_list a b pins s σ H _ _ v u Q I r1 r2 ⟨_, _, _, v1, rfl, rfl, SqL.of p1, e2, k _ as H Gr.refl m r⟩ hp
      · cases ev
    | _ => cases ev
  | _ => cases ev
end

/-! ### targets, statements, loops, comprehensions -/
inductive Fl where
  | nx (ρ : Rho)
  | rt (d : D)
  | bk (ρ : Rho)
  | ct (ρ : Rho)
abbrev FS := Rho → Mem → Option (Fl × Mem)
abbrev FG := D → Rho → Option Rho
/- a target that fills slots: those of vs alone -/
def rG (K : Kx) (vs : List Nat) (f : FG) : TG := fun v σ H Q => ∃ as ρ d ρ', SR K as H σ ρ ∧ VR K as H v d ∧ f d ρ = some ρ' ∧ ∀ σ', SR K as H σ' ρ' → wipe σ' vs = wipe σ vs → Q σ' H
def SG (K : Kx) (X : Cx) (vs : List Nat) (e : Expr) (f : FG) : Prop := X.K = K.K → X.calm = true → PG X e (rG K vs f)
abbrev FGs := List D → Rho → Option Rho
def rGs (K : Kx) (vs : List Nat) (f : FGs) : TGs := fun us σ H Q => ∃ as ρ ds ρ', SR K as H σ ρ ∧ VRs K as H us ds ∧ f ds ρ = some ρ' ∧ ∀ σ', SR K as H σ' ρ' → wipe σ' vs = wipe σ vs → Q σ' H
def SGs (K : Kx) (X : Cx) (vs : List Nat) (es : List Expr) (f : FGs) : Prop := X.K = K.K → X.calm = true → PGs X es (rGs K vs f)
theorem pgs_mono {X : Cx} {es : List Expr} {t t' : TGs} (h : PGs X es t) (m : ∀ v σ H Q, t' v σ H Q → t v σ H Q) : PGs X es t' := ⟨fun pins s σ H v u Q I r q => h.run pins s σ H v u Q I r (m v σ H Q q)⟩
def gN (i : Nat) : FG := fun d ρ => some (ρ.set i (some d))
def gsNil : FGs := fun ds ρ => match ds with
  | [] => some ρ
  | _ => none
def gsCons (g : FG) (gs : FGs) : FGs := fun ds ρ => match ds with
  | d :: r => (g d ρ).bind fun ρ1 => gs r ρ1
  | _ => none
def gT (n : Nat) (gs : FGs) : FG := fun d ρ => match d with
  | .tup ds => if ds.length = n then gs ds ρ else none
  | _ => none
theorem wipe_set {σ : L2.St} {i : Nat} {x : Option V} : ∀ {vs : List Nat}, i ∈ vs → wipe (σ.set i x) vs = wipe σ vs
  | v :: vs, h => by
    unfold wipe
    by_cases hi : i ∈ vs
    · rw [wipe_set hi]
    · have hv : i = v := by
        rcases List.mem_cons.mp h with h | h
        · exact h
        · exact absurd h hi
      subst hv
      have : ∀ {us : List Nat}, i ∉ us → wipe (σ.set i x) us = (wipe σ us).set i x := fun {us} hn => by
        induction us with
        | nil => rfl
        | cons u us ih =>
          unfold wipe
          have h1 : i ≠ u := fun z => hn (by rw [z]; exact List.mem_cons_self)
          rw [ih fun z => hn (List.mem_cons_of_mem _ z), List.set_comm _ _ h1]
      rw [this hi, List.set_set]
section
variable {K : Kx} {X : Cx} {vs : List Nat} {pos : Pos}
theorem sg_name {i : Nat} {x : Str} (hi : i ∈ vs) (hN : X.N.Nodup) (hx : X.N[i]? = some x) (hl : Loc X.env.scope x) (hf : X.fn x = true ∨ X.env.scope.names.lookup x = some .local := by first | exact .inl rfl | exact .inr rfl | assumption) : SG K X vs (.Name x pos) (gN i) :=
  fun _ _ => pg_mono (pg_name hN hx hl hf) fun v σ H Q ⟨as, ρ, d, ρ', sr, r, ev, k⟩ => by
    cases ev
    exact k _ (sr.set r i) (wipe_set hi)
theorem sgs_nil : SGs K X vs [] gsNil := fun _ _ => pgs_mono pgs_nil fun us σ H Q ⟨as, ρ, ds, ρ', sr, r, ev, k⟩ => by
  cases r with
  | nil => cases ev; exact ⟨rfl, k _ sr rfl⟩
  | cons _ _ => cases ev
theorem sgs_cons {e : Expr} {es : List Expr} {g : FG} {gs : FGs} (h1 : SG K X vs e g) (h2 : SGs K X vs es gs) (hs : (assignEach (e :: es) X.env).map (·.2) = assign e X.env :: (assignEach es X.env).map (·.2) := by rfl) : SGs K X vs (e :: es) (gsCons g gs) :=
  fun hK hc => pgs_mono (pgs_cons (h1 hK hc) (h2 hK hc) hs) fun us σ H Q ⟨as, ρ, ds, ρ', sr, r, ev, k⟩ => by
    cases r with
    | nil => cases ev
    | cons r rs =>
      simp only [gsCons] at ev
      obtain ⟨ρ1, e1, ev⟩ := Option.bind_eq_some_iff.mp ev
      exact ⟨_, _, rfl, as, ρ, _, ρ1, sr, r, e1, fun σ1 s1 w1 => ⟨as, ρ1, _, ρ', s1, rs, ev, fun σ2 s2 w2 => k σ2 s2 (w2.trans w1)⟩⟩
theorem sg_tup {es : List Expr} {kk : Nat} {gs : FGs} {n : Nat} (h : SGs K X vs es gs) (hn : (assignEach es X.env).length = n := by rfl) (hst : (assignEach es X.env).findIdx? (·.1) = none := by rfl) : SG K X vs (.Tuple es kk pos) (gT n gs) :=
  fun hK hc => by
    obtain ⟨_, Γ⟩ := K
    cases hK
    refine pg_mono (pg_tup hc (h rfl hc) hn hst) fun v σ H Q ⟨as, ρ, d, ρ', sr, r, ev, k⟩ => ?_
    cases r with
    | @tup a xs ds h1 hs =>
      simp only [gT] at ev
      split at ev
      · rename_i hl
        exact ⟨a, xs, rfl, h1.sq, by rw [hs.len]; exact hl, as, ρ, ds, ρ', sr, hs, ev, k⟩
      · cases ev
    | _ => cases ev
end
def FlOk (K : Kx) (as : List Addr) (H : Hp) (M' : Mem) (D : Ends) : Fl → Prop
  | .nx ρ' => ∀ σ' as' H', Gr as H as' H' → MR K as' H' M' → SR K as' H' σ' ρ' → D.nx σ' H'
  | .bk ρ' => ∀ σ' as' H', Gr as H as' H' → MR K as' H' M' → SR K as' H' σ' ρ' → D.bk σ' H'
  | .ct ρ' => ∀ σ' as' H', Gr as H as' H' → MR K as' H' M' → SR K as' H' σ' ρ' → D.ct σ' H'
  | .rt d => ∀ v as' H', Gr as H as' H' → MR K as' H' M' → VR K as' H' v d → D.rt v H'
def rS (K : Kx) (f : FS) : TS := fun D σ H => ∃ as ρ M fl M', SR K as H σ ρ ∧ MR K as H M ∧ f ρ M = some (fl, M') ∧ FlOk K as H M' D fl
def SS (K : Kx) (X : Cx) (st : Stmt) (f : FS) : Prop := X.K = K.K → X.calm = true → PS X st (rS K f)
def SSs (K : Kx) (X : Cx) (sts : List Stmt) (f : FS) : Prop := X.K = K.K → X.calm = true → PSs X sts (rS K f)
theorem FlOk.gr {K : Kx} {as as' : List Addr} {H H' : Hp} {M' : Mem} {D : Ends} (g : Gr as H as' H') : ∀ {fl : Fl}, FlOk K as H M' D fl → FlOk K as' H' M' D fl
  | .nx _, h => fun σ a2 H2 g2 => h σ a2 H2 (g.trans g2)
  | .bk _, h => fun σ a2 H2 g2 => h σ a2 H2 (g.trans g2)
  | .ct _, h => fun σ a2 H2 g2 => h σ a2 H2 (g.trans g2)
  | .rt _, h => fun σ a2 H2 g2 => h σ a2 H2 (g.trans g2)
def sNext : FS := fun ρ M => some (.nx ρ, M)
def sSeq (a b : FS) : FS := fun ρ M => (a ρ M).bind fun p => match p.1 with
  | .nx ρ1 => b ρ1 p.2
  | fl => some (fl, p.2)
def sAsg (f : FE) (g : FG) : FS := fun ρ M => (f ρ M).bind fun p => (g p.1 ρ).map fun ρ1 => (.nx ρ1, p.2)
def sPar (i j : Nat) (fa : FA) : FS := fun ρ M => (fa ρ M).bind fun p => match p.1 with
  | [d, e] => some (.nx ((ρ.set i (some d)).set j (some e)), p.2)
  | _ => none
def sRet (f : FE) : FS := fun ρ M => (f ρ M).map fun p => (.rt p.1, p.2)
def sDrop (f : FE) : FS := fun ρ M => (f ρ M).map fun p => (.nx ρ, p.2)
def sIf (c : FT) (a b : FS) : FS := fun ρ M => (c ρ M).bind fun p => if p.1 = true then a ρ p.2 else b ρ p.2
def sBrk : FS := fun ρ M => some (.bk ρ, M)
def sCont : FS := fun ρ M => some (.ct ρ, M)
def sRetN : FS := fun _ M => some (.rt .non, M)
section
variable {K : Kx} {X : Cx} {st : Stmt} {sts : List Stmt} {f h : FS} {e : Expr} {fe : FE} {pos : Pos}
theorem ss_cont : SS K X (.Continue pos) sCont := fun _ _ => ps_mono ps_continue fun D σ H ⟨as, ρ, M, fl, M', sr, mr, ev, k⟩ => by
  cases ev
  exact k σ as H Gr.refl mr sr
theorem ss_ret (he : SE K X e fe) : SS K X (.Return (some e) pos) (sRet fe) := fun hK hc => ps_mono (ps_ret (he hK hc)) fun D σ H ⟨as, ρ, M, fl, M', sr, mr, ev, k⟩ => by
  unfold sRet at ev
  obtain ⟨⟨d, M1⟩, e1, ev⟩ := Option.map_eq_some_iff.mp ev
  cases ev
  exact ⟨as, ρ, M, d, _, sr, mr, e1, fun v as1 H1 g1 m1 r1 => k v as1 H1 g1 m1 r1⟩
theorem ss_expr (he : SE K X e fe) (hs : swapsWith e none pos.line X.env = pure false := by rfl) : SS K X (.Expr e pos) (sDrop fe) := fun hK hc => ps_mono (ps_expr (he hK hc) hs) fun D σ H ⟨as, ρ, M, fl, M', sr, mr, ev, k⟩ => by
  unfold sDrop at ev
  obtain ⟨⟨d, M1⟩, e1, ev⟩ := Option.map_eq_some_iff.mp ev
  cases ev
  exact ⟨as, ρ, M, d, _, sr, mr, e1, fun v as1 H1 g1 m1 r1 => k σ as1 H1 g1 m1 (sr.gr g1)⟩
theorem ss_set {i : Nat} {x : Str} {pos' : Pos} (hN : X.N.Nodup) (hi : X.N[i]? = some x) (hx : Loc X.env.scope x) (he : SE K X e fe) (hs : swapsWith e (some (.Name x pos')) pos.line X.env = pure false := by rfl) (hf : X.fn x = true ∨ X.env.scope.names.lookup x = some .local := by first | exact .inl rfl | exact .inr rfl | assumption) :
    SS K X (.Assign [.Name x pos'] e pos) (sAsg fe (gN i)) := fun hK hc => ps_mono (ps_set hN hi hx (he hK hc) hs hf) fun D σ H ⟨as, ρ, M, fl, M', sr, mr, ev, k⟩ => by
  unfold sAsg at ev
  obtain ⟨⟨d, M1⟩, e1, ev⟩ := Option.bind_eq_some_iff.mp ev
  cases ev
  exact ⟨as, ρ, M, d, _, sr, mr, e1, fun v as1 H1 g1 m1 r1 => k _ as1 H1 g1 m1 ((sr.gr g1).set r1 i)⟩
theorem ss_asg {tg : Expr} {vs : List Nat} {g : FG} (he : SE K X e fe) (hg : SG K X vs tg g) (hs : swapsWithSole [tg] e pos.line X.env = pure false := by rfl) (hw : swappedStores [tg] e X.env = pure none := by rfl)
    (h1 : (assignEach [tg] X.env).map (·.2) = [assign tg X.env] := by rfl) : SS K X (.Assign [tg] e pos) (sAsg fe g) := fun hK hc => ps_mono (ps_asg (he hK hc) (hg hK hc) hs hw h1) fun D σ H ⟨as, ρ, M, fl, M', sr, mr, ev, k⟩ => by
  unfold sAsg at ev
  obtain ⟨⟨d, M1⟩, e1, ev⟩ := Option.bind_eq_some_iff.mp ev
  obtain ⟨ρ1, e2, ev⟩ := Option.map_eq_some_iff.mp ev
  cases ev
  exact ⟨as, ρ, M, d, _, sr, mr, e1, fun v as1 H1 g1 m1 r1 => ⟨as1, ρ, d, ρ1, sr.gr g1, r1, e2, fun σ' s' _ => k σ' as1 H1 g1 m1 s'⟩⟩
theorem ss_par {i j : Nat} {x y : Str} {a b : Expr} {fa : FA} {px py pt : Pos} {kt k2 pt2} (hN : X.N.Nodup) (hi : X.N[i]? = some x) (hj : X.N[j]? = some y) (hij : i ≠ j)
    (hx : X.env.scope.names.lookup x = some .local) (hy : X.env.scope.names.lookup y = some .local) (ha : SA K X [a, b] fa)
    (hw : swappedStores [.Tuple [.Name x px, .Name y py] kt pt] (.Tuple [a, b] k2 pt2) X.env = pure (some [x, y]))
    (hs : swapsWithSole [.Tuple [.Name x px, .Name y py] kt pt] (.Tuple [a, b] k2 pt2) pos.line X.env = pure false := by rfl) :
    SS K X (.Assign [.Tuple [.Name x px, .Name y py] kt pt] (.Tuple [a, b] k2 pt2) pos) (sPar i j fa) := fun hK hc => ps_mono (ps_par hc hN hi hj hij hx hy (ha hK hc) hw hs) fun D σ H ⟨as, ρ, M, fl, M', sr, mr, ev, k⟩ => by
  unfold sPar at ev
  obtain ⟨⟨ds, M1⟩, e1, ev⟩ := Option.bind_eq_some_iff.mp ev
  dsimp only at ev
  split at ev
  · cases ev
    refine ⟨as, ρ, M, _, _, sr, mr, e1, fun vs as1 H1 g1 m1 r1 => ?_⟩
    cases r1 with
    | cons r r1 =>
      cases r1 with
      | cons r' r1 =>
        cases r1
        exact ⟨_, _, rfl, k _ as1 H1 g1 m1 (((sr.gr g1).set r i).set r' j)⟩
  · cases ev
theorem ss_if {c : Expr} {fc : FT} {a b : List Stmt} {fa fb : FS} (hc : ST K X c fc) (ha : SSs K X a fa) (hb : SSs K X b fb) : SS K X (.If c a b pos) (sIf fc fa fb) := fun hK hq => ps_mono (ps_if (hc hK hq) (ha hK hq) (hb hK hq)) fun D σ H ⟨as, ρ, M, fl, M', sr, mr, ev, k⟩ => by
  unfold sIf at ev
  obtain ⟨⟨x, M1⟩, e1, ev⟩ := Option.bind_eq_some_iff.mp ev
  refine ⟨as, ρ, M, x, M1, sr, mr, e1, fun as1 H1 g1 m1 => ?_⟩
  cases x with
  | true =>
    rw [if_pos rfl] at ev ⊢
    exact ⟨as1, ρ, M1, fl, M', sr.gr g1, m1, ev, k.gr g1⟩
  | false =>
    rw [if_neg (fun z => nomatch z)] at ev ⊢
    exact ⟨as1, ρ, M1, fl, M', sr.gr g1, m1, ev, k.gr g1⟩
theorem rS.two {fa fb : FS} {D : Ends} {σ : L2.St} {H : Hp} (h : rS K (sSeq fa fb) D σ H) : tSeq (rS K fa) (rS K fb) D σ H := by
  obtain ⟨as, ρ, M, fl, M', sr, mr, ev, k⟩ := h
  unfold sSeq at ev
  obtain ⟨⟨x, M1⟩, e1, ev⟩ := Option.bind_eq_some_iff.mp ev
  refine ⟨as, ρ, M, x, M1, sr, mr, e1, ?_⟩
  cases x with
  | nx ρ1 => exact fun σ' as1 H1 g1 m1 s1 => ⟨as1, ρ1, M1, fl, M', s1, m1, ev, k.gr g1⟩
  | rt d => cases ev; exact k
  | bk d => cases ev; exact k
  | ct d => cases ev; exact k
theorem sss_nil : SSs K X [] sNext := fun _ _ => pss_mono pss_nil fun D σ H ⟨as, ρ, M, fl, M', sr, mr, ev, k⟩ => by
  cases ev
  exact k σ as H Gr.refl mr sr
theorem sss_one (hs : SS K X st f) : SSs K X [st] f := fun hK hc => pss_one (hs hK hc)
theorem sss_cons (hs : SS K X st f) (hr : SSs K X sts h) : SSs K X (st :: sts) (sSeq f h) := fun hK hc => pss_mono (pss_cons (hs hK hc) (hr hK hc)) fun D σ H => rS.two
/-! while -/
def wl (c : FT) (b : FS) : Nat → Rho → Mem → Option (Fl × Mem)
  | 0, _, _ => none
  | n + 1, ρ, M => (c ρ M).bind fun p => if p.1 = true then (b ρ p.2).bind fun q => match q.1 with
      | .nx ρ1 => wl c b n ρ1 q.2
      | .ct ρ1 => wl c b n ρ1 q.2
      | .bk ρ1 => some (.nx ρ1, q.2)
      | .rt d => some (.rt d, q.2)
    else some (.nx ρ, p.2)
theorem wl_mono {c : FT} {b : FS} : ∀ {n : Nat} {ρ : Rho} {M : Mem} {r : Fl × Mem}, wl c b n ρ M = some r → wl c b (n + 1) ρ M = some r
  | 0, _, _, _, e => by cases e
  | n + 1, ρ, M, r, e => by
    unfold wl at e ⊢
    obtain ⟨p, e1, e⟩ := Option.bind_eq_some_iff.mp e
    rw [e1]
    dsimp only [Option.bind_some]
    split at e
    · rename_i h
      rw [if_pos h]
      obtain ⟨q, e2, e⟩ := Option.bind_eq_some_iff.mp e
      rw [e2]
      dsimp only [Option.bind_some]
      cases hq : q.1 with
      | nx ρ1 => rw [hq] at e; exact wl_mono e
      | ct ρ1 => rw [hq] at e; exact wl_mono e
      | bk ρ1 => rw [hq] at e; exact e
      | rt d => rw [hq] at e; exact e
    · rename_i h
      rw [if_neg h]
      exact e
theorem wl_le {c : FT} {b : FS} {m n : Nat} {ρ : Rho} {M : Mem} {r : Fl × Mem} (h : m ≤ n) (e : wl c b m ρ M = some r) : wl c b n ρ M = some r := by
  induction h with
  | refl => exact e
  | step _ ih => exact wl_mono ih
open Classical in
noncomputable def sWhile (c : FT) (b : FS) : FS := fun ρ M => if h : ∃ r n, wl c b n ρ M = some r then some h.choose else none
theorem sWhile_of {c : FT} {b : FS} {n : Nat} {ρ : Rho} {M : Mem} {r : Fl × Mem} (e : wl c b n ρ M = some r) : sWhile c b ρ M = some r := by
  have h : ∃ r n, wl c b n ρ M = some r := ⟨r, n, e⟩
  unfold sWhile
  rw [dif_pos h]
  obtain ⟨m, q⟩ := h.choose_spec
  have h1 := wl_le (Nat.le_max_left m n) q
  have h2 := wl_le (Nat.le_max_right m n) e
  rw [h1] at h2
  exact h2
theorem of_sWhile {c : FT} {b : FS} {ρ : Rho} {M : Mem} {r : Fl × Mem} (e : sWhile c b ρ M = some r) : ∃ n, wl c b n ρ M = some r := by
  unfold sWhile at e
  split at e
  · rename_i h
    cases e
    exact h.choose_spec
  · cases e
theorem ss_while {c : Expr} {body : List Stmt} {fc : FT} {fb : FS} (hp : PassesOwn (model X.prog X.w) X.A X.env X.xe) (hc : ST K X c fc) (hb : SSs K X body fb) : SS K X (.While c body [] pos) (sWhile fc fb) :=
  fun hK hq => ps_mono (ps_while hp (hc hK hq) (hb hK hq)) fun D σ H ⟨as, ρ, M, fl, M', sr, mr, ev, k⟩ => by
    obtain ⟨n, ev⟩ := of_sWhile ev
    refine ⟨fun m σ H => ∃ as ρ M, SR K as H σ ρ ∧ MR K as H M ∧ wl fc fb m ρ M = some (fl, M') ∧ FlOk K as H M' D fl, ⟨n, as, ρ, M, sr, mr, ev, k⟩, ?_⟩
    rintro m σ H ⟨as, ρ, M, sr, mr, ev, k⟩
    cases m with
    | zero => cases ev
    | succ m =>
      unfold wl at ev
      obtain ⟨⟨x, M1⟩, e1, ev⟩ := Option.bind_eq_some_iff.mp ev
      refine ⟨as, ρ, M, x, M1, sr, mr, e1, fun as1 H1 g1 m1 => ?_⟩
      cases x with
      | false =>
        rw [if_neg (fun z => nomatch z)] at ev ⊢
        cases ev
        exact k σ as1 H1 g1 m1 (sr.gr g1)
      | true =>
        rw [if_pos rfl] at ev ⊢
        obtain ⟨⟨y, M2⟩, e2, ev⟩ := Option.bind_eq_some_iff.mp ev
        refine ⟨fun σ H => ∃ as ρ M, SR K as H σ ρ ∧ MR K as H M ∧ wl fc fb m ρ M = some (fl, M') ∧ FlOk K as H M' D fl, fun σ' H' hN => ⟨m, Nat.lt_succ_self m, hN⟩, as1, ρ, M1, y, M2, sr.gr g1, m1, e2, ?_⟩
        cases y with
        | nx ρ1 => exact fun σ' as2 H2 g2 m2 s2 => ⟨as2, ρ1, M2, s2, m2, ev, (k.gr g1).gr g2⟩
        | ct ρ1 => exact fun σ' as2 H2 g2 m2 s2 => ⟨as2, ρ1, M2, s2, m2, ev, (k.gr g1).gr g2⟩
        | bk ρ1 => cases ev; exact k.gr g1
        | rt d => cases ev; exact k.gr g1
end

/-! ### what is walked: its items, and what must stand meanwhile -/
abbrev Src := List D × (Mem → Prop)
abbrev FI := Rho → Mem → Option (Src × Mem)
structure ItR (K : Kx) (as : List Addr) (H : Hp) (J : It) (s : Src) : Prop where
  stop : ∀ as' H' M, Gr as H as' H' → MR K as' H' M → s.2 M → J.stop s.1.length H'
  go : ∀ as' H' M (i : Nat) (d : D), Gr as H as' H' → MR K as' H' M → s.2 M → s.1[i]? = some d → J.go i H' ∧ ∀ x H2, J.yld i H' x H2 → Gr as' H' as' H2 ∧ MR K as' H2 M ∧ VR K as' H2 x d
def rI (K : Kx) (f : FI) : TI := fun σ H R => ∃ as ρ M s M', SR K as H σ ρ ∧ MR K as H M ∧ f ρ M = some (s, M') ∧ ∀ J as' H', Gr as H as' H' → MR K as' H' M' → ItR K as' H' J s → R J H'
def SI (K : Kx) (X : Cx) (tg e : Expr) (f : FI) : Prop := X.K = K.K → X.calm = true → PI X tg e (rI K f)
theorem ItR.gr {K : Kx} {as as' : List Addr} {H H' : Hp} {J : It} {s : Src} (g : Gr as H as' H') (h : ItR K as H J s) : ItR K as' H' J s :=
  ⟨fun a2 H2 M g2 => h.stop a2 H2 M (g.trans g2), fun a2 H2 M i d g2 => h.go a2 H2 M i d (g.trans g2)⟩
open Classical in
noncomputable def runG (gd : Mem → Prop) (body : D → Rho → Mem → Option (Fl × Mem)) : List D → Rho → Mem → Option (Fl × Mem)
  | [], ρ, M => if gd M then some (.nx ρ, M) else none
  | d :: ds, ρ, M => if gd M then (body d ρ M).bind fun q => match q.1 with
      | .nx ρ1 => runG gd body ds ρ1 q.2
      | .ct ρ1 => runG gd body ds ρ1 q.2
      | .bk ρ1 => some (.nx ρ1, q.2)
      | .rt d => some (.rt d, q.2)
    else none
def bodyG (g : FG) (b : FS) : D → Rho → Mem → Option (Fl × Mem) := fun d ρ M => (g d ρ).bind fun ρ1 => b ρ1 M
noncomputable def sFor (fi : FI) (g : FG) (b : FS) : FS := fun ρ M => (fi ρ M).bind fun p => runG p.1.2 (bodyG g b) p.1.1 ρ p.2
/-! the items that are made, one by one -/
open Classical in
noncomputable def mapG (gd : Mem → Prop) (f : D → Mem → Option (Option D × Mem)) : List D → Mem → Option (List D × Mem)
  | [], M => if gd M then some ([], M) else none
  | d :: ds, M => if gd M then (f d M).bind fun p => (mapG gd f ds p.2).bind fun q => some (p.1.toList ++ q.1, q.2) else none
def wipeD (ρ : Rho) : List Nat → Rho
  | [] => ρ
  | v :: vs => (wipeD ρ vs).set v none
def itemG (g : FG) (tt : FT) (te : FE) (ρ : Rho) : D → Mem → Option (Option D × Mem) := fun d M => (g d ρ).bind fun ρ1 => (tt ρ1 M).bind fun p => if p.1 = true then (te ρ1 p.2).map fun q => (some q.1, q.2) else some (none, p.2)
noncomputable def fLc (fi : FI) (g : FG) (tt : FT) (te : FE) (vs : List Nat) : FE := fun ρ M => (fi ρ M).bind fun p => (mapG p.1.2 (itemG g tt te (wipeD ρ vs)) p.1.1 p.2).bind fun q => if p.1.1.length ≤ 100000 then some (.rf q.2.length, q.2 ++ [.lst q.1]) else none
theorem ite_y {c A B : Prop} [Decidable c] (h : c) (a : A) : if c then A else B := by
  rw [if_pos h]
  exact a
theorem ite_n {c A B : Prop} [Decidable c] (h : ¬ c) (a : B) : if c then A else B := by
  rw [if_neg h]
  exact a
def tYesD : FT := fun _ M => some (true, M)
section
variable {K : Kx} {X : Cx} {pos : Pos} {tg e : Expr}
theorem ss_for {iter : Expr} {body : List Stmt} {fi : FI} {vs : List Nat} {g : FG} {fb : FS} (hp : PassesOwn (model X.prog X.w) X.A X.env X.xe)
    (hi : SI K X tg iter fi) (hg : SG K X vs tg g) (hb : SSs K X body fb) (hs : ∀ x, foldedSetIterable iter X.env x = pure x := by intro _; rfl) : SS K X (.For tg iter body [] pos) (sFor fi g fb) :=
  fun hK hc => ps_mono (ps_for hp hc (hi hK hc) (hg hK hc) (hb hK hc) hs) fun D σ H ⟨as, ρ, M, fl, M', sr, mr, ev, k⟩ => by
    unfold sFor at ev
    obtain ⟨⟨⟨ds, gd⟩, M1⟩, e1, ev⟩ := Option.bind_eq_some_iff.mp ev
    refine ⟨as, ρ, M, (ds, gd), M1, sr, mr, e1, fun J as1 H1 g1 m1 it => ?_⟩
    refine ⟨fun i m σ H => i ≤ ds.length ∧ m = ds.length - i ∧ ∃ as ρ M, Gr as1 H1 as H ∧ SR K as H σ ρ ∧ MR K as H M ∧ runG gd (bodyG g fb) (ds.drop i) ρ M = some (fl, M') ∧ FlOk K as H M' D fl,
      ⟨ds.length, Nat.zero_le _, rfl, as1, ρ, M1, Gr.refl, sr.gr g1, m1, by simpa using ev, k.gr g1⟩, ?_⟩
    rintro i m σ H ⟨hi, rfl, as, ρ, M, g2, sr, mr, ev, k⟩
    by_cases hl : i < ds.length
    · rw [List.drop_eq_getElem_cons hl] at ev
      unfold runG at ev
      split at ev
      · rename_i hgd
        have hd : ds[i]? = some ds[i] := List.getElem?_eq_getElem hl
        obtain ⟨hgo, hy⟩ := it.go as H M i _ g2 mr hgd hd
        obtain ⟨⟨y, M2⟩, e2, ev⟩ := Option.bind_eq_some_iff.mp ev
        unfold bodyG at e2
        obtain ⟨ρ1, e3, e2⟩ := Option.bind_eq_some_iff.mp e2
        refine .inr ⟨hgo, fun σ H => ∃ as ρ M, Gr as1 H1 as H ∧ SR K as H σ ρ ∧ MR K as H M ∧ runG gd (bodyG g fb) (ds.drop (i + 1)) ρ M = some (fl, M') ∧ FlOk K as H M' D fl, fun σ' H' hN => ⟨ds.length - (i + 1), by omega, hl, rfl, hN⟩, fun x H3 hx => ?_⟩
        obtain ⟨g3, m3, r3⟩ := hy x H3 hx
        refine ⟨as, ρ, _, ρ1, sr.gr g3, r3, e3, fun σ4 s4 _ => ⟨as, ρ1, M, y, M2, s4, m3, e2, ?_⟩⟩
        cases y with
        | nx ρ2 => exact fun σ' as5 H5 g5 m5 s5 => ⟨as5, ρ2, M2, (g2.trans g3).trans g5, s5, m5, ev, (k.gr g3).gr g5⟩
        | ct ρ2 => exact fun σ' as5 H5 g5 m5 s5 => ⟨as5, ρ2, M2, (g2.trans g3).trans g5, s5, m5, ev, (k.gr g3).gr g5⟩
        | bk ρ2 => cases ev; exact k.gr g3
        | rt d => cases ev; exact k.gr g3
      · cases ev
    · have hi' : i = ds.length := by omega
      subst hi'
      rw [List.drop_length] at ev
      unfold runG at ev
      split at ev
      · rename_i hgd
        cases ev
        exact .inl ⟨it.stop as H _ g2 mr hgd, k σ as H Gr.refl mr sr⟩
      · cases ev
theorem SR.wipe {as : List Addr} {H : Hp} {σ : L2.St} {ρ : Rho} (h : SR K as H σ ρ) : ∀ vs : List Nat, SR K as H (wipe σ vs) (wipeD ρ vs)
  | [] => h
  | v :: vs => (SR.wipe h vs).unset v
theorem rE.lc {fi : FI} {g : FG} {tt : FT} {te : FE} {vs : List Nat} {σ : L2.St} {H : Hp} {Q : VK} (h : rE K (fLc fi g tt te vs) σ H Q) : tLc (rI K fi) (rG K vs g) (rT K tt) (rE K te) vs σ H Q := by
  obtain ⟨as, ρ, M, d, M', sr, mr, ev, k⟩ := h
  unfold fLc at ev
  obtain ⟨⟨⟨ds, gd⟩, M1⟩, e1, ev⟩ := Option.bind_eq_some_iff.mp ev
  obtain ⟨⟨ys, M2⟩, e2, ev⟩ := Option.bind_eq_some_iff.mp ev
  dsimp only at e2 ev
  split at ev
  · rename_i hlim
    cases ev
    refine ⟨as, ρ, M, (ds, gd), M1, sr, mr, e1, fun J as1 H1 g1 m1 it => ?_⟩
    intro L hL
    have hgL : Gr as1 H1 as1 (upd H1 L (.lst [])) := Gr.new hL
    have hnL : L ∉ as1 := fun z => by
      obtain ⟨o, e, _⟩ := m1.there z
      rw [hL] at e; cases e
    refine ⟨fun i m H => i ≤ ds.length ∧ m = ds.length - i ∧ ∃ as M acc got rest, Gr as1 H1 as H ∧ L ∉ as ∧ H L = some (.lst acc) ∧ acc.length ≤ i ∧ VRs K as H acc got ∧ MR K as H M ∧ mapG gd (itemG g tt te (wipeD ρ vs)) (ds.drop i) M = some (rest, M2) ∧ ys = got ++ rest,
      ⟨ds.length, Nat.zero_le _, rfl, as1, M1, [], [], ys, hgL, hnL, upd_same, by simp, .nil, m1.new hL, by simpa using e2, rfl⟩, ?_⟩
    rintro i m H ⟨hi, rfl, as2, M3, acc, got, rest, g2, nL, hacc, hlen, racc, m2, e3, hys⟩
    by_cases hl : i < ds.length
    · rw [List.drop_eq_getElem_cons hl] at e3
      unfold mapG at e3
      split at e3
      · rename_i hgd
        have hd : ds[i]? = some ds[i] := List.getElem?_eq_getElem hl
        obtain ⟨hgo, hy⟩ := it.go as2 H M3 i _ g2 m2 hgd hd
        obtain ⟨⟨od, M4⟩, e4, e3⟩ := Option.bind_eq_some_iff.mp e3
        obtain ⟨⟨rs, M5⟩, e5, e3⟩ := Option.bind_eq_some_iff.mp e3
        dsimp only at e3 e5
        have hM : M5 = M2 := congrArg Prod.snd (Option.some.inj e3)
        have hR : od.toList ++ rs = rest := congrArg Prod.fst (Option.some.inj e3)
        subst hR
        obtain rfl : M2 = M5 := hM.symm
        unfold itemG at e4
        obtain ⟨ρ1, e6, e4⟩ := Option.bind_eq_some_iff.mp e4
        obtain ⟨⟨b, M6⟩, e7, e4⟩ := Option.bind_eq_some_iff.mp e4
        refine .inr ⟨hgo, fun H => ∃ as M acc got rest, Gr as1 H1 as H ∧ L ∉ as ∧ H L = some (.lst acc) ∧ acc.length ≤ i + 1 ∧ VRs K as H acc got ∧ MR K as H M ∧ mapG gd (itemG g tt te (wipeD ρ vs)) (ds.drop (i + 1)) M = some (rest, M2) ∧ ys = got ++ rest, fun H' hN => ⟨ds.length - (i + 1), by omega, hl, rfl, hN⟩, fun x H3 hx => ?_⟩
        obtain ⟨g3, m3, r3⟩ := hy x H3 hx
        refine ⟨as2, wipeD ρ vs, _, ρ1, ((sr.gr g1).wipe vs).gr (g2.trans g3), r3, e6, fun σ4 s4 w4 => ⟨?_, as2, ρ1, M3, b, M6, s4, m3, e7, fun as7 H7 g7 m7 => ?_⟩⟩
        · rw [w4]
          have : ∀ vs : List Nat, ∀ σ : L2.St, wipe (wipe σ vs) vs = wipe σ vs := fun vs => by
            intro σ
            have key : ∀ us ts : List Nat, (∀ u ∈ us, u ∈ ts) → wipe (wipe σ us) ts = wipe σ ts := fun us => by
              induction us with
              | nil => intro ts _; rfl
              | cons u us ih =>
                intro ts h
                show wipe ((wipe σ us).set u none) ts = _
                rw [wipe_set (h u List.mem_cons_self)]
                exact ih ts fun v hv => h v (List.mem_cons_of_mem _ hv)
            exact key vs vs fun u h => h
          exact this vs σ
        · have nL7 : L ∉ as7 := fun z => by
            by_cases z2 : L ∈ as2
            · exact nL z2
            · have := (g3.trans g7).fresh L z z2
              rw [hacc] at this; cases this
          have hacc7 : H7 L = some (.lst acc) := (g3.trans g7).keep L _ hacc nL
          cases b with
          | true =>
            rw [if_pos rfl] at e4
            refine ite_y rfl ?_
            obtain ⟨⟨y, M8⟩, e8, e4⟩ := Option.map_eq_some_iff.mp e4
            cases e4
            refine ⟨as7, ρ1, M6, y, M8, s4.gr g7, m7, e8, fun v as9 H9 g9 m9 r9 => ?_⟩
            have nL9 : L ∉ as9 := fun z => by
              by_cases z2 : L ∈ as7
              · exact nL7 z2
              · have := g9.fresh L z z2
                rw [hacc7] at this; cases this
            have hacc9 : H9 L = some (.lst acc) := g9.keep L _ hacc7 nL7
            refine ⟨acc, hacc9, Nat.lt_of_lt_of_le (Nat.lt_of_le_of_lt hlen hl) (lim_ok hlim), as9, M8, acc ++ [v], got ++ [y], _, ((((g2.trans g3).trans g7).trans g9).over hL), nL9, upd_same, by simp; omega, ?_, m9.side hacc9 nL9, e5, by simpa using hys⟩
            exact ((((racc.gr g3).gr g7).gr g9).append (.cons r9 .nil)).gv (Gv.side hacc9)
          | false =>
            rw [if_neg (fun z => nomatch z)] at e4
            refine ite_n (fun z => nomatch z) ?_
            cases e4
            exact ⟨as7, M6, acc, got, _, (g2.trans g3).trans g7, nL7, hacc7, by omega, (racc.gr g3).gr g7, m7, by simpa using e5, by simpa using hys⟩
      · cases e3
    · have hi' : i = ds.length := by omega
      subst hi'
      rw [List.drop_length] at e3
      unfold mapG at e3
      split at e3
      · rename_i hgd
        cases e3
        refine .inl ⟨it.stop as2 H _ g2 m2 hgd, ?_⟩
        rw [List.append_nil] at hys
        subst hys
        exact k _ (as2 ++ [L]) H ((g1.trans g2).take (g1.free hL) nL) (m2.take hacc nL racc) (.rf (by rw [← m2.len]; simp))
      · cases e3
  · cases ev
theorem sts_nil : X.K = K.K → X.calm = true → PTs X [] (rT K tYesD) := fun _ _ => pts_mono pts_nil fun σ H Q ⟨as, ρ, M, b, M', sr, mr, ev, k⟩ => by
  cases ev
  exact k as H Gr.refl mr
theorem sts_one {c : Expr} {t : FT} (h : ST K X c t) : X.K = K.K → X.calm = true → PTs X [c] (rT K t) := fun hK hc => pts_one (h hK hc)
abbrev Blk (X : Cx) (scope : Scope) (P : Cx → Prop) : Prop := ∀ (s : Shared) (H : Hp) (C : Addr) (cl : List (Str × Addr)) (fp : List Addr), P (X.blk s H scope (compEnvC scope cl C X.env) fp)
theorem se_lc {elt iter : Expr} {ifs : List Expr} {scope : Scope} {own : List (Str × Nat)} {fi : FI} {g : FG} {tt : FT} {te : FE} (hN : X.N.Nodup) (hi : SI K X tg iter fi) (ok : BlkOk X.N X.env.scope scope own)
    (hg : Blk X scope fun Y => SG K Y (own.map (·.2)) tg g) (ht : Blk X scope fun Y => Y.K = K.K → Y.calm = true → PTs Y ifs (rT K tt)) (he : Blk X scope fun Y => SE K Y elt te) (hs : ∀ x, foldedSetIterable iter X.env x = pure x := by intro _; rfl) :
    SE K X (.ListComp elt [⟨tg, iter, ifs, 0⟩] scope pos) (fLc fi g tt te (own.map (·.2))) := SE.imp (fun hK hc => pe_lc hc hN (hi hK hc) ok (fun s H C cl fp => hg s H C cl fp hK hc) (fun s H C cl fp => ht s H C cl fp hK hc) (fun s H C cl fp => he s H C cl fp hK hc) hs) fun _ _ _ => rE.lc
theorem ss_setLc {i : Nat} {y : Str} {py spos : Pos} {elt iter : Expr} {ifs : List Expr} {scope : Scope} {own : List (Str × Nat)} {fi : FI} {g : FG} {tt : FT} {te : FE} (hN : X.N.Nodup) (hy : X.N[i]? = some y) (hyl : X.env.scope.names.lookup y = some .local)
    (hsw : swapsWith (.ListComp elt [⟨tg, iter, ifs, 0⟩] scope pos) (some (.Name y py)) spos.line X.env = pure true) (hi : SI K X tg iter fi) (ok : BlkOk X.N X.env.scope scope own)
    (hg : Blk X scope fun Y => SG K Y (own.map (·.2)) tg g) (ht : Blk X scope fun Y => Y.K = K.K → Y.calm = true → PTs Y ifs (rT K tt)) (he : Blk X scope fun Y => SE K Y elt te) (hs : ∀ x, foldedSetIterable iter X.env x = pure x := by intro _; rfl) :
    SS K X (.Assign [.Name y py] (.ListComp elt [⟨tg, iter, ifs, 0⟩] scope pos) spos) (sAsg (fLc fi g tt te (own.map (·.2))) (gN i)) :=
  fun hK hc => ps_mono (ps_setLc hc hN hy hyl hsw (hi hK hc) ok (fun s H C cl fp => hg s H C cl fp hK hc) (fun s H C cl fp => ht s H C cl fp hK hc) (fun s H C cl fp => he s H C cl fp hK hc) hs) fun D σ H ⟨as, ρ, M, fl, M', sr, mr, ev, k⟩ => by
    unfold sAsg at ev
    obtain ⟨⟨d, M1⟩, e1, ev⟩ := Option.bind_eq_some_iff.mp ev
    cases ev
    exact rE.lc ⟨as, ρ, M, d, _, sr, mr, e1, fun v as1 H1 g1 m1 r1 => k _ as1 H1 g1 m1 ((sr.gr g1).set r1 i)⟩
/-! the walked things -/
def itemsOf : D → Mem → Option Src
  | .tup ds, _ => some (ds, fun _ => True)
  | .rol ds, _ => some (ds, fun _ => True)
  | .rf i, M => match M[i]? with
    | some (.lst ds) => some (ds, fun M' => M'[i]? = some (.lst ds))
    | _ => none
  | .str z, _ => some (z.cps.toList.map fun c => .str ⟨#[c]⟩, fun _ => True)
  | _, _ => none
def iE (fe : FE) : FI := fun ρ M => (fe ρ M).bind fun p => (itemsOf p.1 p.2).map fun s => (s, p.2)
theorem itr_tup {as : List Addr} {H : Hp} {a : Addr} {xs : List V} {ds : List D} (h : TupS K H a xs) (r : VRs K as H xs ds) : ItR K as H (Itt K.K a) (ds, fun _ => True) where
  stop := fun as' H' M g _ _ => ⟨xs, (h.gv g.gv).sq, by rw [r.len]; exact Nat.le_refl _⟩
  go := fun as' H' M i d g m _ e => by
    have h' := (h.gv g.gv).sq
    obtain ⟨v, e1, rv⟩ := (r.gr g).get e
    refine ⟨⟨xs, v, h', e1⟩, fun x H2 y => ?_⟩
    obtain ⟨rfl, y⟩ := y
    have := y xs h'
    rw [e1] at this
    cases this
    exact ⟨Gr.refl, m, rv⟩
theorem itr_rol {as : List Addr} {H : Hp} {a : Addr} {xs : List V} {ds : List D} (h : RolS K H a xs) (r : VRs K as H xs ds) : ItR K as H (Itl K.K a) (ds, fun _ => True) where
  stop := fun as' H' M g _ _ => ⟨xs, (h.gv g.gv).sq, by rw [r.len]; exact Nat.le_refl _⟩
  go := fun as' H' M i d g m _ e => by
    have h' := (h.gv g.gv).sq
    obtain ⟨v, e1, rv⟩ := (r.gr g).get e
    refine ⟨⟨xs, v, h', e1⟩, fun x H2 y => ?_⟩
    obtain ⟨rfl, y⟩ := y
    have := y xs h'
    rw [e1] at this
    cases this
    exact ⟨Gr.refl, m, rv⟩
theorem itr_lst {as : List Addr} {H : Hp} {a : Addr} {j : Nat} {ds : List D} (h : as[j]? = some a) : ItR K as H (Itl K.K a) (ds, fun M => M[j]? = some (.lst ds)) where
  stop := fun as' H' M g m hg => by
    obtain ⟨xs, q, r⟩ := m.lst (g.gv.get h) hg
    exact ⟨xs, SqL.of q, by rw [r.len]; exact Nat.le_refl _⟩
  go := fun as' H' M i d g m hg e => by
    obtain ⟨xs, q, r⟩ := m.lst (g.gv.get h) hg
    obtain ⟨v, e1, rv⟩ := r.get e
    refine ⟨⟨xs, v, SqL.of q, e1⟩, fun x H2 y => ?_⟩
    obtain ⟨rfl, y⟩ := y
    have := y xs (SqL.of q)
    rw [e1] at this
    cases this
    exact ⟨Gr.refl, m, rv⟩
theorem si_e {fe : FE} (he : SE K X e fe) : SI K X tg e (iE fe) := fun hK hc => by
  obtain ⟨_, Γ⟩ := K
  cases hK
  refine ⟨fun pins s σ H R I h => ?_⟩
  obtain ⟨as, ρ, M, sc, M', sr, mr, ev, k⟩ := h
  unfold iE at ev
  obtain ⟨⟨d, M1⟩, e1, ev⟩ := Option.bind_eq_some_iff.mp ev
  obtain ⟨sc', e2, ev⟩ := Option.map_eq_some_iff.mp ev
  cases ev
  cases d with
  | tup ds =>
    cases e2
    refine (pi_tup (tg := tg) (he rfl hc)).run pins s σ H R I ⟨as, ρ, M, _, _, sr, mr, e1, fun v as1 H1 g1 m1 r1 => ?_⟩
    cases r1 with
    | tup h hs => exact ⟨_, rfl, ⟨_, h.sq⟩, k _ as1 H1 g1 m1 (itr_tup h hs)⟩
  | rol ds =>
    cases e2
    refine (pi_list (tg := tg) (he rfl hc)).run pins s σ H R I ⟨as, ρ, M, _, _, sr, mr, e1, fun v as1 H1 g1 m1 r1 => ?_⟩
    cases r1 with
    | rol h hs => exact ⟨_, rfl, ⟨_, h.sq⟩, k _ as1 H1 g1 m1 (itr_rol h hs)⟩
  | rf j =>
    simp only [itemsOf] at e2
    split at e2
    · rename_i ds hd
      cases e2
      refine (pi_list (tg := tg) (he rfl hc)).run pins s σ H R I ⟨as, ρ, M, _, _, sr, mr, e1, fun v as1 H1 g1 m1 r1 => ?_⟩
      cases r1 with
      | rf h =>
        obtain ⟨xs, q, _⟩ := m1.lst h hd
        exact ⟨_, rfl, ⟨_, SqL.of q⟩, k _ as1 H1 g1 m1 (itr_lst h)⟩
    · cases e2
  | str z =>
    cases e2
    refine (pi_str (tg := tg) (he rfl hc)).run pins s σ H R I ⟨as, ρ, M, _, _, sr, mr, e1, fun v as1 H1 g1 m1 r1 => ?_⟩
    cases r1
    refine ⟨z, rfl, k _ as1 H1 g1 m1 ⟨fun as' H' M _ _ _ => by simp [Its], fun as' H' M i d g m _ e => ?_⟩⟩
    simp only [List.getElem?_map, Option.map_eq_some_iff] at e
    obtain ⟨c, e, rfl⟩ := e
    have hi : i < z.cps.size := by
      have := (List.getElem?_eq_some_iff.mp e).1
      simpa using this
    refine ⟨hi, fun x H2 y => ?_⟩
    obtain ⟨rfl, c', hc', rfl⟩ := y
    rw [Array.getElem?_toList] at e
    rw [e] at hc'
    cases hc'
    exact ⟨Gr.refl, m, .str _⟩
  | _ => cases e2
/- range(n), range(a, b) -/
def upto (lo : Int) (n : Nat) : List D := (List.range n).map fun i : Nat => .int (lo + i)
def iR1 (fa : FE) : FI := fun ρ M => (fa ρ M).bind fun p => match p.1 with
  | .int j => if j ≤ 100000 ∧ -100000 ≤ j then some ((upto 0 j.toNat, fun _ => True), p.2) else none
  | _ => none
def iR2 (fa fb : FE) : FI := fun ρ M => (fa ρ M).bind fun p => (fb ρ p.2).bind fun q => match p.1, q.1 with
  | .int i, .int j => if j ≤ 100000 ∧ -100000 ≤ i ∧ -100000 ≤ j ∧ i ≤ 100000 then some ((upto i (j - i).toNat, fun _ => True), q.2) else none
  | _, _ => none
theorem itr_rng {as : List Addr} {H : Hp} {lo : Int} {n : Nat} : ItR K as H (Itr lo n) (upto lo n, fun _ => True) where
  stop := fun as' H' M g _ _ => by simp [Itr, upto]
  go := fun as' H' M i d g m _ e => by
    simp only [upto, List.getElem?_map, Option.map_eq_some_iff] at e
    obtain ⟨j, e, rfl⟩ := e
    have hj : i < n ∧ j = i := by
      have := List.getElem?_eq_some_iff.mp e
      obtain ⟨h1, h2⟩ := this
      simp at h1 h2
      exact ⟨h1, h2.symm⟩
    obtain ⟨hi, rfl⟩ := hj
    refine ⟨hi, fun x H2 y => ?_⟩
    obtain ⟨rfl, rfl⟩ := y
    exact ⟨Gr.refl, m, .int _⟩
theorem si_range1 {a : Expr} {fa : FE} {p : Pos} (hg : Gl X "range") (hm : X.mg "range" = none) (ha : SE K X a fa) (hs : starEach [a] X.env = [(false, eval a X.env)] := by rfl) (hs' : starEach [a] X.env = (false, eval a X.env) :: starEach [] X.env := by rfl) : SI K X tg (.Call (.Name "range" p) [a] [] pos) (iR1 fa) :=
  fun hK hc => pi_mono (pi_range1 hg hm (pa_cons (ha hK hc) pa_nil hs') hs) fun σ H R ⟨as, ρ, M, sc, M', sr, mr, ev, k⟩ => by
    unfold iR1 at ev
    obtain ⟨⟨d, M1⟩, e1, ev⟩ := Option.bind_eq_some_iff.mp ev
    refine ⟨as, ρ, M, d, M1, sr, mr, e1, fun v as1 H1 g1 m1 r1 => ?_⟩
    cases r1 with
    | int j =>
      dsimp only at ev
      split at ev
      · rename_i hl
        cases ev
        exact ⟨_, rfl, by omega, by omega, k _ as1 H1 g1 m1 itr_rng⟩
      · cases ev
    | _ => cases ev
/- pairs of two walks -/
def pairs : List D → List D → List D
  | a :: as, b :: bs => .tup [a, b] :: pairs as bs
  | _, _ => []
def numbered (ds : List D) : List D := pairs (upto 0 ds.length) ds
/- lists and tuples -/
def zipOf : D → D → Mem → Option Src
  | .tup ds, .tup es, _ => some (pairs ds es, fun _ => True)
  | .rf i, .rf j, M => match M[i]?, M[j]? with
    | some (.lst ds), some (.lst es) => some (pairs ds es, fun M' => M'[i]? = some (.lst ds) ∧ M'[j]? = some (.lst es))
    | _, _ => none
  | .tup ds, .rf j, M => match M[j]? with
    | some (.lst es) => some (pairs ds es, fun M' => M'[j]? = some (.lst es))
    | _ => none
  | .rf i, .tup es, M => match M[i]? with
    | some (.lst ds) => some (pairs ds es, fun M' => M'[i]? = some (.lst ds))
    | _ => none
  | _, _, _ => none
def iZ (fa fb : FE) : FI := fun ρ M => (fa ρ M).bind fun p => (fb ρ p.2).bind fun q => (zipOf p.1 q.1 q.2).map fun s => (s, q.2)
/- what a walk over a list or a tuple has at hand -/
def SrcR (K : Kx) (as : List Addr) (H : Hp) (t : Bool) (a : Addr) (ds : List D) (gd : Mem → Prop) : Prop := ∀ as' H' M, Gr as H as' H' → MR K as' H' M → gd M → ∃ xs, Sq2 K.K H' t a xs ∧ VRs K as' H' xs ds
theorem srcT {as : List Addr} {H : Hp} {a : Addr} {xs : List V} {ds : List D} (h : TupS K H a xs) (r : VRs K as H xs ds) : SrcR K as H true a ds fun _ => True := fun _ _ _ g _ _ => ⟨xs, (h.gv g.gv).sq, r.gr g⟩
theorem SrcR.gr {as as' : List Addr} {H H' : Hp} {t : Bool} {a : Addr} {ds : List D} {gd : Mem → Prop} (g : Gr as H as' H') (h : SrcR K as H t a ds gd) : SrcR K as' H' t a ds gd := fun as2 H2 M g2 => h as2 H2 M (g.trans g2)
/- enumerate of a list -/
def iEn (fa : FE) : FI := fun ρ M => (fa ρ M).bind fun p => match p.1 with
  | .rf j => match p.2[j]? with
    | some (.lst ds) => some ((numbered ds, fun M' => M'[j]? = some (.lst ds)), p.2)
    | _ => none
  | .rol ds => some ((numbered ds, fun _ => True), p.2)
  | .tup ds => some ((numbered ds, fun _ => True), p.2)
  | _ => none
end

/-! ### defs and calls -/
def spP (K : Kx) (n : Nat) (f : List D → Option D) : Sp := fun vs H Q _ => ∃ ds d, vs.length = n ∧ VRs K [] H vs ds ∧ f ds = some d ∧ ∀ v H', Same H H' → VR K [] H' v d → Q v H'
def spM (K : Kx) (n : Nat) (f : GL) : Sp := fun vs H Q _ => ∃ as M ds d M', vs.length = n ∧ MR K as H M ∧ VRs K as H vs ds ∧ f ds M = some (d, M') ∧ ∀ v as' H', Gr as H as' H' → MR K as' H' M' → VR K as' H' v d → Q v H'
/- what a body of no effect is worth -/
def mkP (n N : Nat) (body : FS) : List D → Option D := fun ds => if D.los 0 ds = true ∧ ds.length = n then (body (startD N ds) []).bind fun p => match p.1 with
    | .rt d => if d.imm = true then some d else none
    | .nx _ => some .non
    | _ => none
  else none
/- a body that works on the memory -/
def mkM (n N : Nat) (body : FS) : GL := fun ds M => if ds.length = n then (body (startD N ds) M).bind fun p => match p.1 with
    | .rt d => some (d, p.2)
    | .nx _ => some (.non, p.2)
    | _ => none
  else none
/- what it leaves behind is forgotten where nothing speaks of it -/
def gc (n : Nat) (p : D × Mem) : D × Mem := if p.1.lo n = true ∧ (p.2.take n).all (Cell.lo n) = true then (p.1, p.2.take n) else p
def mkG (n N : Nat) (body : FS) : GL := fun ds M => (mkM n N body ds M).map (gc M.length)
theorem mkM_len {n N : Nat} {body : FS} {ds : List D} {M : Mem} {d : D × Mem} (h : mkM n N body ds M = some d) : ds.length = n := by
  unfold mkM at h
  split at h
  · assumption
  · cases h
theorem mkG_len {n N : Nat} {body : FS} {ds : List D} {M : Mem} {d : D × Mem} (h : mkG n N body ds M = some d) : ds.length = n := by
  unfold mkG at h
  obtain ⟨_, h, _⟩ := Option.map_eq_some_iff.mp h
  exact mkM_len h
theorem mkP_lo {n N : Nat} {body : FS} {ds : List D} {d : D} (h : mkP n N body ds = some d) : D.los 0 ds = true ∧ ds.length = n := by
  unfold mkP at h
  split at h
  · assumption
  · cases h
section
variable {P : Program} {w : World} {K : Kx} {mg : Str → Option Value} {base : Heap}
theorem okP {x qual : Str} {st : Stmt} {f : Addr} {fd : FuncData} {N ps : List Str} {k : Nat} {fb : FS} (F : Fun K.K x qual st f fd) (S : FnScope N ps (defScope st))
    (hb : ∀ (cdv : Value) (A : Around) (outer : List Env) (s : Shared) (H : Hp) (E : XK), Room k (A.deeper (envOfC qual (defScope st) s.heap.objs.size f cdv)) → SSs K (cxOf CX0 P w K.K mg base N qual (defScope st) f cdv A outer s H E).nox (defBody st) fb) :
    FnOk P w K.K mg base CX0 (k + 1) f fd ps (spP K ps.length (mkP ps.length N.length fb)) := by
  refine F.ok S (fun vs H Q E h => ?_) fun cdv A outer s H vs Q E hr h => ⟨rS K fb, hb cdv A outer s H E hr rfl rfl, ?_⟩
  · obtain ⟨_, _, h, _⟩ := h
    exact h
  obtain ⟨ds, d, hl, rs, e, k⟩ := h
  have hlo := mkP_lo e
  unfold mkP at e
  rw [if_pos hlo] at e
  obtain ⟨⟨fl, M1⟩, e1, e⟩ := Option.bind_eq_some_iff.mp e
  refine ⟨[], startD N.length ds, [], fl, M1, SR.start rs, MR.nil, e1, ?_⟩
  cases fl with
  | rt d' =>
    dsimp only at e
    split at e
    · rename_i hi
      cases e
      exact fun v as' H' g m r => k v H' g.same (by simpa using r.low (n := 0) hi)
    · cases e
  | nx ρ =>
    cases e
    exact fun σ' as' H' g m r => k .non H' g.same .non
  | bk ρ => cases e
  | ct ρ => cases e
theorem okM {x qual : Str} {st : Stmt} {f : Addr} {fd : FuncData} {N ps : List Str} {k : Nat} {fb : FS} (F : Fun K.K x qual st f fd) (S : FnScope N ps (defScope st))
    (hb : ∀ (cdv : Value) (A : Around) (outer : List Env) (s : Shared) (H : Hp) (E : XK), Room k (A.deeper (envOfC qual (defScope st) s.heap.objs.size f cdv)) → SSs K (cxOf CX0 P w K.K mg base N qual (defScope st) f cdv A outer s H E).nox (defBody st) fb) :
    FnOk P w K.K mg base CX0 (k + 1) f fd ps (spM K ps.length (mkM ps.length N.length fb)) := by
  refine F.ok S (fun vs H Q E h => ?_) fun cdv A outer s H vs Q E hr h => ⟨rS K fb, hb cdv A outer s H E hr rfl rfl, ?_⟩
  · obtain ⟨_, _, _, _, _, h, _⟩ := h
    exact h
  obtain ⟨as, M, ds, d, M', hl, mr, rs, e, k⟩ := h
  have hlen := mkM_len e
  unfold mkM at e
  rw [if_pos hlen] at e
  obtain ⟨⟨fl, M1⟩, e1, e⟩ := Option.bind_eq_some_iff.mp e
  refine ⟨as, startD N.length ds, M, fl, M1, SR.start rs, mr, e1, ?_⟩
  cases fl with
  | rt d' =>
    cases e
    exact fun v as' H' g m r => k v as' H' g m r
  | nx ρ =>
    cases e
    exact fun σ' as' H' g m r => k .non as' H' g m .non
  | bk ρ => cases e
  | ct ρ => cases e
theorem spM_gc {n : Nat} {f : GL} {vs : List V} {H : Hp} {Q : VK} {E : XK} (h : spM K n (fun ds M => (f ds M).map (gc M.length)) vs H Q E) : spM K n f vs H Q E := by
  obtain ⟨as, M, ds, d, M', hl, mr, rs, e, k⟩ := h
  obtain ⟨⟨d1, M1⟩, e1, e⟩ := Option.map_eq_some_iff.mp e
  refine ⟨as, M, ds, d1, M1, hl, mr, rs, e1, fun v as' H' g m r => ?_⟩
  unfold gc at e
  split at e
  · rename_i hc
    cases e
    obtain ⟨t, ht⟩ := g.app
    have hn : as'.take M.length = as := by rw [← mr.len, ht]; simp
    have m' := m.low hc.2
    have r' := r.low hc.1
    have g' := g.low
    rw [mr.len] at g'
    rw [hn] at m' r' g'
    exact k v as H' g' m' r'
  · cases e
    exact k v as' H' g m r
theorem okG {x qual : Str} {st : Stmt} {f : Addr} {fd : FuncData} {N ps : List Str} {k : Nat} {fb : FS} (F : Fun K.K x qual st f fd) (S : FnScope N ps (defScope st))
    (hb : ∀ (cdv : Value) (A : Around) (outer : List Env) (s : Shared) (H : Hp) (E : XK), Room k (A.deeper (envOfC qual (defScope st) s.heap.objs.size f cdv)) → SSs K (cxOf CX0 P w K.K mg base N qual (defScope st) f cdv A outer s H E).nox (defBody st) fb) :
    FnOk P w K.K mg base CX0 (k + 1) f fd ps (spM K ps.length (mkG ps.length N.length fb)) := (okM F S hb).imp fun _ _ _ _ h => spM_gc h
end
def fCP (f : List D → Option D) (fa : FA) : FE := fun ρ M => (fa ρ M).bind fun p => (f p.1).map fun d => (d, p.2)
section
variable {K : Kx} {X : Cx} {e o : Expr} {es : List Expr} {fa : FA} {fo fe fi : FE} {pos p apos cpos : Pos} {x : Str} {k n : Nat} {f : Addr} {fd : FuncData} {ps : List Str}
theorem rE.callP {m : List D → Option D} (hm : ∀ ds d, m ds = some d → D.los 0 ds = true ∧ ds.length = n) {σ : L2.St} {H : Hp} {Q : VK} (h : rE K (fCP m fa) σ H Q) : tCall (spP K n m) [] E0 (rA K fa) σ H Q := by
  obtain ⟨as, ρ, M, d, M', sr, mr, ev, k⟩ := h
  unfold fCP at ev
  obtain ⟨⟨ds, M1⟩, e1, ev⟩ := Option.bind_eq_some_iff.mp ev
  obtain ⟨d', e2, ev⟩ := Option.map_eq_some_iff.mp ev
  cases ev
  refine ⟨as, ρ, M, ds, _, sr, mr, e1, fun vs as1 H1 g1 m1 r1 => ⟨ds, d, ?_, ?_, e2, fun v H2 s2 r2 => ?_⟩⟩
  · rw [List.append_nil, r1.len]
    exact (hm _ _ e2).2
  · rw [List.append_nil]
    simpa using r1.low (n := 0) (hm _ _ e2).1
  · exact k v as1 H2 (g1.trans (Gr.of_same m1 s2)) (m1.same s2) r2.up
theorem rE.callM {m : GL} (hm : ∀ ds M d, m ds M = some d → ds.length = n) {σ : L2.St} {H : Hp} {Q : VK} (h : rE K (fL m fa) σ H Q) : tCall (spM K n m) [] E0 (rA K fa) σ H Q := by
  obtain ⟨as, ρ, M, d, M', sr, mr, ev, k⟩ := h
  unfold fL at ev
  obtain ⟨⟨ds, M1⟩, e1, ev⟩ := Option.bind_eq_some_iff.mp ev
  refine ⟨as, ρ, M, ds, _, sr, mr, e1, fun vs as1 H1 g1 m1 r1 => ⟨as1, M1, ds, d, M', ?_, m1, ?_, ev, fun v as2 H2 g2 m2 r2 => k v as2 H2 (g1.trans g2) m2 r2⟩⟩
  · rw [List.append_nil, r1.len]
    exact hm _ _ _ ev
  · rw [List.append_nil]
    exact r1
theorem se_callP {m : List D → Option D} (hm : ∀ ds d, m ds = some d → D.los 0 ds = true ∧ ds.length = n) (F : X.K = K.K → FnOk X.prog X.w X.K X.mg X.base CX0 k f fd ps (spP K n m)) (hr : Room k X.A) (hg : Gl X x) (hmg : X.mg x = some (.ref f)) (hk : X.K = K.K → PySem.W.keepIn X.K (.ref f) = true) (hb : X.K = K.K → Binds X.K fd ps [])
    (ha : SA K X (e :: es) fa) (hdb : (x == ("__debug__" : Str)) = false := by decide) (he : starEach (e :: es) X.env = (false, eval e X.env) :: starEach es X.env := by rfl) (hpl : (backTo pos (starEach es X.env)).any (·.1) = false := by rfl) :
    SE K X (.Call (.Name x p) (e :: es) [] pos) (fCP m fa) := SE.imp (fun hK hc => pe_call (F hK) hr hg hmg (hk hK) (hb hK) .nil pass0 (ha hK hc) hdb he hpl) fun _ _ _ => rE.callP hm
theorem se_callM {m : GL} (hm : ∀ ds M d, m ds M = some d → ds.length = n) (F : X.K = K.K → FnOk X.prog X.w X.K X.mg X.base CX0 k f fd ps (spM K n m)) (hr : Room k X.A) (hg : Gl X x) (hmg : X.mg x = some (.ref f)) (hk : X.K = K.K → PySem.W.keepIn X.K (.ref f) = true) (hb : X.K = K.K → Binds X.K fd ps [])
    (ha : SA K X (e :: es) fa) (hdb : (x == ("__debug__" : Str)) = false := by decide) (he : starEach (e :: es) X.env = (false, eval e X.env) :: starEach es X.env := by rfl) (hpl : (backTo pos (starEach es X.env)).any (·.1) = false := by rfl) :
    SE K X (.Call (.Name x p) (e :: es) [] pos) (fL m fa) := SE.imp (fun hK hc => pe_call (F hK) hr hg hmg (hk hK) (hb hK) .nil pass0 (ha hK hc) hdb he hpl) fun _ _ _ => rE.callM hm
/-! built-ins -/
theorem rE.list {g : GL} {σ : L2.St} {H : Hp} {Q : VK} (h : rE K (fL g fa) σ H Q) : tCB (rL K g) (rA K fa) σ H Q := by
  obtain ⟨as, ρ, M, d, M', sr, mr, ev, k⟩ := h
  unfold fL at ev
  obtain ⟨⟨ds, M1⟩, e1, ev⟩ := Option.bind_eq_some_iff.mp ev
  exact ⟨as, ρ, M, ds, _, sr, mr, e1, fun vs as1 H1 g1 m1 r1 => ⟨as1, M1, ds, d, M', m1, r1, ev, fun v as2 H2 g2 m2 r2 => k v as2 H2 (g1.trans g2) m2 r2⟩⟩
theorem se_callB {id : String} {g : GL} (hc : X.K = K.K → X.calm = true → CallR X (.builtin id) (rL K g)) (hg : Gl X x) (hm : X.mg x = none) (hv : bootBuiltins x = some (.builtin id)) (ha : SA K X (e :: es) fa) (hn : x ≠ "__name__" := by decide) (hdb : (x == ("__debug__" : Str)) = false := by decide)
    (he : starEach (e :: es) X.env = (false, eval e X.env) :: starEach es X.env := by rfl) (hpl : (backTo pos (starEach es X.env)).any (·.1) = false := by rfl) : SE K X (.Call (.Name x p) (e :: es) [] pos) (fL g fa) :=
  SE.imp (fun hK hq => pe_callB (hc hK hq) hg hm hv (ha hK hq) hn hdb he hpl) fun _ _ _ => rE.list
theorem se_callTy {T : String} {g : GL} (hc : X.K = K.K → X.calm = true → CallR X (.type T) (rL K g)) (hg : Gl X x) (hm : X.mg x = none) (hv : bootBuiltins x = some (.type T)) (ha : SA K X (e :: es) fa) (hn : x ≠ "__name__" := by decide) (hdb : (x == ("__debug__" : Str)) = false := by decide)
    (he : starEach (e :: es) X.env = (false, eval e X.env) :: starEach es X.env := by rfl) (hpl : (backTo pos (starEach es X.env)).any (·.1) = false := by rfl) : SE K X (.Call (.Name x p) (e :: es) [] pos) (fL g fa) :=
  SE.imp (fun hK hq => pe_callTy (hc hK hq) hg hm hv (ha hK hq) hn hdb he hpl) fun _ _ _ => rE.list
def bAbs : GL
  | [.int i], M => some (.int (if i < 0 then -i else i), M)
  | _, _ => none
def bInt : GL
  | [.int i], M => some (.int i, M)
  | [.bl k], M => some (.int (if k then 1 else 0), M)
  | _, _ => none
/- the items of a list or tuple -/
def seqOf : D → Mem → Option (List D)
  | .tup ds, _ => some ds
  | .rol ds, _ => some ds
  | .rf i, M => match M[i]? with
    | some (.lst ds) => some ds
    | _ => none
  | _, _ => none
def bLen : GL
  | [.str z], M => if z.length ≤ 100000 then some (.int z.length, M) else none
  | [d], M => (seqOf d M).map fun ds => (.int ds.length, M)
  | _, _ => none
def bTuple : GL
  | [d], M => (seqOf d M).map fun ds => (.tup ds, M)
  | _, _ => none
def bList : GL
  | [d], M => (seqOf d M).map fun ds => (.rf M.length, M ++ [.lst ds])
  | _, _ => none
def D.ints : List D → Option (List Int)
  | [] => some []
  | .int i :: ds => (D.ints ds).map (i :: ·)
  | _ => none
def D.bls : List D → Option (List Bool)
  | [] => some []
  | .bl i :: ds => (D.bls ds).map (i :: ·)
  | _ => none
/- the items of a list -/
def lstOf : D → Mem → Option (List D)
  | .rol ds, _ => some ds
  | .rf i, M => match M[i]? with
    | some (.lst ds) => some ds
    | _ => none
  | _, _ => none
def bSum : GL
  | [d], M => (lstOf d M).bind fun ds => (D.ints ds).map fun ns => (.int ns.sum, M)
  | _, _ => none
def bAll : GL
  | [d], M => (lstOf d M).bind fun ds => (D.bls ds).map fun bs => (.bl (bs.all id), M)
  | _, _ => none
def bAny : GL
  | [d], M => (lstOf d M).bind fun ds => (D.bls ds).map fun bs => (.bl (bs.any id), M)
  | _, _ => none
theorem seqOf_rel {as : List Addr} {H : Hp} {M : Mem} {v : V} {d : D} {ds : List D} (m : MR K as H M) (r : VR K as H v d) (e : seqOf d M = some ds) : ∃ a xs, v = .ref a ∧ (SqL K.K H a xs ∨ TupS K H a xs) ∧ VRs K as H xs ds := by
  cases r with
  | tup h hs => cases e; exact ⟨_, _, rfl, .inr h, hs⟩
  | rol h hs => cases e; exact ⟨_, _, rfl, .inl h.sq, hs⟩
  | rf h =>
    simp only [seqOf] at e
    split at e
    · rename_i ds' hd
      cases e
      obtain ⟨xs, q, r⟩ := m.lst h hd
      exact ⟨_, xs, rfl, .inl (SqL.of q), r⟩
    · cases e
  | _ => cases e
theorem cr_abs' : X.K = K.K → X.calm = true → CallR X (.builtin "abs") (rL K bAbs) := fun _ _ pins s σ H xs us Q I r hh => by
  obtain ⟨as, M, ds, d, M', m, q, ev, k⟩ := hh
  unfold bAbs at ev
  split at ev
  · cases ev
    cases q with
    | cons q qs =>
      cases qs
      cases q
      exact call_abs pins s σ H _ us Q I r ⟨_, rfl, k _ as H Gr.refl m (.int _)⟩
  · cases ev
theorem cr_int' : X.K = K.K → X.calm = true → CallR X (.type "int") (rL K bInt) := fun _ _ pins s σ H xs us Q I r hh => by
  obtain ⟨as, M, ds, d, M', m, q, ev, k⟩ := hh
  unfold bInt at ev
  split at ev
  · cases ev
    cases q with
    | cons q qs =>
      cases qs
      cases q
      exact call_int1 pins s σ H _ us Q I r (.inl ⟨_, rfl, k _ as H Gr.refl m (.int _)⟩)
  · cases ev
    cases q with
    | cons q qs =>
      cases qs
      cases q
      exact call_int1 pins s σ H _ us Q I r (.inr ⟨_, rfl, k _ as H Gr.refl m (.int _)⟩)
  · cases ev
theorem cr_len' : X.K = K.K → X.calm = true → CallR X (.builtin "len") (rL K bLen) := fun hK _ pins s σ H xs us Q I r hh => by
  obtain ⟨_, Γ⟩ := K
  cases hK
  obtain ⟨as, M, ds, d, M', m, q, ev, k⟩ := hh
  unfold bLen at ev
  split at ev
  · split at ev
    · rename_i hl
      cases ev
      cases q with
      | cons q qs =>
        cases qs
        cases q
        exact call_len pins s σ H _ us Q I r ⟨_, _, rfl, ⟨lim_ok hl, rfl⟩, k _ as H Gr.refl m (.int _)⟩
    · cases ev
  · cases q with
    | cons q qs =>
      cases qs
      obtain ⟨ds, e1, ev⟩ := Option.map_eq_some_iff.mp ev
      cases ev
      obtain ⟨a, xs, rfl, h, rs⟩ := seqOf_rel m q e1
      refine call_len_seq pins s σ H _ us Q I r ⟨a, xs, rfl, h.imp id TupS.sq, ?_⟩
      rw [rs.len]
      exact k _ as H Gr.refl m (.int _)
  · cases ev
theorem cr_tuple' : X.K = K.K → X.calm = true → CallR X (.type "tuple") (rL K bTuple) := fun hK _ pins s σ H xs us Q I r hh => by
  obtain ⟨_, Γ⟩ := K
  cases hK
  obtain ⟨as, M, ds, d, M', m, q, ev, k⟩ := hh
  unfold bTuple at ev
  split at ev
  · cases q with
    | cons q qs =>
      cases qs
      obtain ⟨ds, e1, ev⟩ := Option.map_eq_some_iff.mp ev
      cases ev
      obtain ⟨a, xs, rfl, h, rs⟩ := seqOf_rel m q e1
      refine call_tuple_of pins s σ H _ us Q I r ⟨a, xs, rfl, h.imp (fun h => ⟨h, fun l hl => ?_⟩) fun h => ⟨h.sq, k _ as H Gr.refl m (.tup h rs)⟩⟩
      have g : Gr as H as (upd H l (.tup xs)) := Gr.new hl
      exact k _ as _ g (m.new hl) (.tup (.inl upd_same) (rs.gr g))
  · cases ev
/-! isinstance -/
def tyOf : D → Mem → Option String
  | .non, _ => some "NoneType"
  | .bl _, _ => some "bool"
  | .int _, _ => some "int"
  | .str _, _ => some "str"
  | .tup _, _ => some "tuple"
  | .rol _, _ => some "list"
  | .rf i, M => match M[i]? with
    | some (.lst _) => some "list"
    | some (.dK _) => some "dict"
    | _ => none
  | _, _ => none
def bIsi : GL
  | [d, .ty T], M => (tyOf d M).bind fun t => (kitB t T).map fun b => (.bl b, M)
  | _, _ => none
/-! stores and methods of lists -/
def setAt (o i d : D) (M : Mem) : Option Mem := match o, i with
  | .rf l, .int k => match M[l]? with
    | some (.lst ds) => (ixN ds.length k).map fun j => M.set l (.lst (ds.set j d))
    | _ => none
  | _, _ => none
def sSub (fe fo fi : FE) : FS := fun ρ M => (fe ρ M).bind fun p => (fo ρ p.2).bind fun q => (fi ρ q.2).bind fun r => (setAt q.1 r.1 p.1 r.2).map fun M' => (.nx ρ, M')
theorem ss_sub {i : Expr} (he : SE K X e fe) (ho : SE K X o fo) (hi : SE K X i fi) (hs : swapsWithSole [.Subscript o i p] e pos.line X.env = pure false := by rfl) (hw : swappedStores [.Subscript o i p] e X.env = pure none := by rfl)
    (h1 : (assignEach [.Subscript o i p] X.env).map (·.2) = [assign (.Subscript o i p) X.env] := by rfl)
    (ha : ∀ v, assign (.Subscript o i p) X.env v = (do
      let ov ← holding [v] (eval o X.env)
      let iv ← holding [v, ov] (eval i X.env)
      standAt p
      holding [v, ov, iv] (setItem ov iv v)
      release [v, ov, iv] []) := by intro _; rfl) : SS K X (.Assign [.Subscript o i p] e pos) (sSub fe fo fi) := fun hK hc => ps_mono (ps_asg (he hK hc) (pg_sub (ho hK hc) (hi hK hc) set_list ha) hs hw h1) fun D σ H ⟨as, ρ, M, fl, M', sr, mr, ev, k⟩ => by
  unfold sSub at ev
  obtain ⟨⟨d, M1⟩, e1, ev⟩ := Option.bind_eq_some_iff.mp ev
  obtain ⟨⟨od, M2⟩, e2, ev⟩ := Option.bind_eq_some_iff.mp ev
  obtain ⟨⟨id, M3⟩, e3, ev⟩ := Option.bind_eq_some_iff.mp ev
  obtain ⟨M4, e4, ev⟩ := Option.map_eq_some_iff.mp ev
  cases ev
  refine ⟨as, ρ, M, d, M1, sr, mr, e1, fun v as1 H1 g1 m1 r1 => ⟨as1, ρ, M1, od, M2, sr.gr g1, m1, e2, fun u as2 H2 g2 m2 r2 => ⟨as2, ρ, M2, id, M3, (sr.gr g1).gr g2, m2, e3, fun w as3 H3 g3 m3 r3 => ?_⟩⟩⟩
  cases r2 with
  | @rf l a h =>
    cases r3 with
    | int kk =>
      simp only [setAt] at e4
      split at e4
      · rename_i ds hd
        obtain ⟨j, e5, e4⟩ := Option.map_eq_some_iff.mp e4
        subst e4
        have h := g3.gv.get h
        obtain ⟨xs, q, rs⟩ := m3.lst h hd
        have gw : Gr as3 H3 as3 (upd H3 a (.lst (xs.set j v))) := Gr.write m3 (List.mem_of_getElem? h)
        refine ⟨a, xs, kk, j, rfl, rfl, q, by rw [rs.len]; exact e5, ?_⟩
        exact k σ as3 _ (((g1.trans g2).trans g3).trans gw) (m3.write h ⟨_, upd_same, (rs.set (r1.gr (g2.trans g3)) j).gr gw⟩) ((((sr.gr g1).gr g2).gr g3).gr gw)
      · cases e4
    | _ => cases e4
  | _ => cases e4
/- the receiver of a list's method -/
def isLst : D → Mem → Bool
  | .rf i, M => match M[i]? with
    | some (.lst _) => true
    | _ => false
  | .rol _, _ => true
  | _, _ => false
def fML (g : D → GL) (fo : FE) (fa : FA) : FE := fun ρ M => (fo ρ M).bind fun o => if isLst o.1 o.2 = true then (fa ρ o.2).bind fun p => g o.1 p.1 p.2 else none
theorem isLst_rel {as : List Addr} {H : Hp} {M : Mem} {v : V} {d : D} (m : MR K as H M) (r : VR K as H v d) (e : isLst d M = true) : tyV K.K "list" v H := by
  cases r with
  | rol h hs => exact .inl ⟨rfl, _, h.sq⟩
  | @rf i a h =>
    simp only [isLst] at e
    split at e
    · rename_i hd
      obtain ⟨xs, q, _⟩ := m.lst h hd
      exact .inl ⟨rfl, xs, SqL.of q⟩
    · cases e
  | _ => cases e
theorem rE.ml {g : D → GL} {σ : L2.St} {H : Hp} {Q : VK} (h : rE K (fML g fo fa) σ H Q) : tBM K.K "list" (rM K g) (rE K fo) (rA K fa) σ H Q := by
  obtain ⟨as, ρ, M, d, M', sr, mr, ev, k⟩ := h
  unfold fML at ev
  obtain ⟨⟨od, M1⟩, e1, ev⟩ := Option.bind_eq_some_iff.mp ev
  split at ev
  · rename_i hi
    obtain ⟨⟨ds, M2⟩, e2, ev⟩ := Option.bind_eq_some_iff.mp ev
    exact ⟨as, ρ, M, od, M1, sr, mr, e1, fun v as1 H1 g1 m1 r1 => ⟨isLst_rel m1 r1 hi, as1, ρ, M1, ds, M2, sr.gr g1, m1, e2, fun vs as2 H2 g2 m2 r2 => ⟨as2, M2, od, ds, d, M', m2, r1.gr g2, r2, ev, fun u as3 H3 g3 m3 r3 => k u as3 H3 ((g1.trans g2).trans g3) m3 r3⟩⟩⟩
  · cases ev
def mApp : D → GL
  | .rf l, [d], M => match M[l]? with
    | some (.lst ds) => if ds.length < 100000 then some (.non, M.set l (.lst (ds ++ [d]))) else none
    | _ => none
  | _, _, _ => none
theorem mr_append : X.K = K.K → X.calm = true → MtR X "list.append" (rM K mApp) := fun hK _ pins s σ H x xs v us Q I r1 r2 hh => by
  obtain ⟨_, Γ⟩ := K
  cases hK
  obtain ⟨as, M, dx, ds, d, M', m, q1, q2, ev, k⟩ := hh
  unfold mApp at ev
  split at ev
  · split at ev
    · rename_i ds hd
      split at ev
      · rename_i hl
        cases ev
        cases q1 with
        | @rf i a h =>
          cases q2 with
          | @cons y _ _ _ q q2 =>
            cases q2
            obtain ⟨ys, p1, rs⟩ := m.lst h hd
            have gw : Gr as H as (upd H a (.lst (ys ++ [y]))) := Gr.write m (List.mem_of_getElem? h)
            exact mt_append pins s σ H _ _ v us Q I r1 r2 ⟨a, ys, _, rfl, rfl, p1, Nat.lt_of_lt_of_le (by rw [rs.len]; exact hl) (lim_ok (Nat.le_refl _)), k _ as _ gw (m.write h ⟨_, upd_same, (rs.append (.cons q .nil)).gr gw⟩) .non⟩
      · cases ev
    · cases ev
  · cases ev
theorem se_app (ho : SE K X o fo) (ha : SA K X (e :: es) fa) (hbase : attributeBase o "append" X.env (eval o X.env) = eval o X.env := by rfl)
    (hfew : ((backTo cpos (starEach (e :: es) X.env)).all (fun x => !x.1) && (backToKw cpos (keywordEach [] X.env)).all (fun x => x.1.isSome)
      && decide ((e :: es).length + ([] : List Keyword).length + (if ([] : List Keyword).isEmpty then 0 else 1) < 30)) = true := by rfl)
    (hline : (apos.endLine == cpos.line) = true := by rfl) (hs : starEach (e :: es) X.env = (false, eval e X.env) :: starEach es X.env := by rfl) (hplain : (backTo cpos (starEach es X.env)).any (·.1) = false := by rfl) :
    SE K X (.Call (.Attribute o "append" apos) (e :: es) [] cpos) (fML mApp fo fa) := fun hK hc => by
  obtain ⟨_, Γ⟩ := K
  cases hK
  exact pe_mono (pe_bm PySem.F.plainAttrs_list PySem.F.slot_list_append PySem.F.type_list_append (mr_append rfl hc) (ho rfl hc) (ha rfl hc) hbase hfew hline hs hplain) fun _ _ _ => rE.ml
def mRev : D → GL
  | .rf l, [], M => match M[l]? with
    | some (.lst ds) => some (.non, M.set l (.lst ds.reverse))
    | _ => none
  | _, _, _ => none
/-! slices -/
/- as cutV, of the mirror's lists -/
def cutD (xs : List D) (lo hi : Option Int) : List D := (xs.drop (HT.sIx xs.length 0 lo)).take (HT.sIx xs.length xs.length hi - HT.sIx xs.length 0 lo)
def gSl : D → Option Int → Option Int → Mem → Option (D × Mem)
  | .tup ds, lo, hi, M => some (.tup (cutD ds lo hi), M)
  | .rol ds, lo, hi, M => some (.rf M.length, M ++ [.lst (cutD ds lo hi)])
  | .str z, lo, hi, M => if z.length ≤ 100000 then some (.str (cutS z lo hi), M) else none
  | .rf i, lo, hi, M => match M[i]? with
    | some (.lst ds) => some (.rf M.length, M ++ [.lst (cutD ds lo hi)])
    | _ => none
  | _, _, _, _ => none
theorem VRs.cut {as : List Addr} {H : Hp} {xs : List V} {ds : List D} {lo hi : Option Int} (h : VRs K as H xs ds) : VRs K as H (cutV xs lo hi) (cutD ds lo hi) := by
  unfold cutV cutD
  rw [h.len]
  exact (h.drop _).take _
def oF (o : Option FE) : Rho → Mem → Option (Option Int × Mem) := fun ρ M => match o with
  | none => some (none, M)
  | some f => (f ρ M).bind fun q => match q.1 with
    | .int i => some (some i, q.2)
    | _ => none
def rPO (K : Kx) (f : Rho → Mem → Option (Option Int × Mem)) : TO := fun σ H Q => ∃ as ρ M b M', SR K as H σ ρ ∧ MR K as H M ∧ f ρ M = some (b, M') ∧ ∀ as' H', Gr as H as' H' → MR K as' H' M' → Q b H'
def SPO (K : Kx) (X : Cx) (e : Option Expr) (f : Option FE) : Prop := X.K = K.K → X.calm = true → PO X e (rPO K (oF f))
theorem po_mono {e : Option Expr} {t t' : TO} (h : PO X e t) (m : ∀ σ H Q, t' σ H Q → t σ H Q) : PO X e t' := ⟨fun pins s σ H Q I q => h.run pins s σ H Q I (m σ H Q q)⟩
theorem spo_none : SPO K X none none := fun _ _ => po_mono po_none fun σ H Q ⟨as, ρ, M, b, M', sr, mr, ev, k⟩ => by
  cases ev
  exact k as H Gr.refl mr
theorem spo_some (he : SE K X e fe) : SPO K X (some e) (some fe) := fun hK hc => po_mono (po_some (he hK hc)) fun σ H Q ⟨as, ρ, M, b, M', sr, mr, ev, k⟩ => by
  unfold oF at ev
  dsimp only at ev
  obtain ⟨⟨d, M1⟩, e1, ev⟩ := Option.bind_eq_some_iff.mp ev
  refine ⟨as, ρ, M, d, M1, sr, mr, e1, fun v as1 H1 g1 m1 r1 => ?_⟩
  cases r1 with
  | int i => cases ev; exact ⟨i, rfl, k as1 H1 g1 m1⟩
  | _ => cases ev
theorem slr (hK : X.K = K.K) : SlR X (fun x lo hi H Q => ∃ as M dx d M', MR K as H M ∧ VR K as H x dx ∧ gSl dx lo hi M = some (d, M') ∧ ∀ v as' H', Gr as H as' H' → MR K as' H' M' → VR K as' H' v d → Q v H') := by
  obtain ⟨_, Γ⟩ := K
  cases hK
  have base := SlR.or (sl_tupA (X := X)) (SlR.or (sl_list (X := X)) (sl_str (X := X)))
  intro pins s σ H x v vl vu lo hi sl Q I rx h1 h2 h3 hh
  refine base pins s σ H x v vl vu lo hi sl Q I rx h1 h2 h3 ?_
  obtain ⟨as, M, dx, d, M', m, q, ev, k⟩ := hh
  cases q with
  | @tup a xs ds h hs =>
    cases ev
    refine .inl ⟨a, xs, rfl, h.sq, fun z => ?_, fun z l hl => ?_⟩
    · have e : cutD ds lo hi = ds := by
        unfold cutD
        rw [← hs.len, z.1, z.2, hs.len]
        simp
      rw [e] at k
      exact k _ as H Gr.refl m (.tup h hs)
    · have g : Gr as H as (upd H l (.tup (cutV xs lo hi))) := Gr.new hl
      exact k _ as _ g (m.new hl) (.tup (.inl upd_same) (hs.cut.gr g))
  | @rol a xs ds h hs =>
    cases ev
    refine .inr (.inl ⟨a, xs, rfl, h.sq, fun l hl => ?_⟩)
    have g : Gr as H (as ++ [l]) (upd H l (.lst (cutV xs lo hi))) := Gr.alloc hl
    exact k _ _ _ g (m.alloc hl ⟨_, upd_same, hs.cut.gr g⟩) (.rf (by rw [← m.len]; simp))
  | str z =>
    simp only [gSl] at ev
    split at ev
    · rename_i hl
      cases ev
      exact .inr (.inr ⟨z, rfl, lim_ok hl, k _ as H Gr.refl m (.str _)⟩)
    · cases ev
  | @rf i a h =>
    simp only [gSl] at ev
    split at ev
    · rename_i ds hd
      cases ev
      obtain ⟨xs, p1, hs⟩ := m.lst h hd
      refine .inr (.inl ⟨a, xs, rfl, SqL.of p1, fun l hl => ?_⟩)
      have g : Gr as H (as ++ [l]) (upd H l (.lst (cutV xs lo hi))) := Gr.alloc hl
      exact k _ _ _ g (m.alloc hl ⟨_, upd_same, hs.cut.gr g⟩) (.rf (by rw [← m.len]; simp))
    · cases ev
  | _ => cases ev
def fSli (fe : FE) (lo hi : Option FE) : FE := fun ρ M => (fe ρ M).bind fun p => (oF lo ρ p.2).bind fun q => (oF hi ρ q.2).bind fun r => gSl p.1 q.1 r.1 r.2
theorem se_slice {lo hi : Option Expr} {fl fh : Option FE} {p2 : Pos} (he : SE K X e fe) (hl : SPO K X lo fl) (hh : SPO K X hi fh) : SE K X (.Subscript e (.Slice lo hi none p2) pos) (fSli fe fl fh) :=
  SE.imp (fun hK hc => pe_slice (slr hK) (he hK hc) (hl hK hc) (hh hK hc)) fun σ H Q ⟨as, ρ, M, d, M', sr, mr, ev, k⟩ => by
    obtain ⟨⟨x, M1⟩, e1, ev⟩ := Option.bind_eq_some_iff.mp ev
    obtain ⟨⟨a, M2⟩, e2, ev⟩ := Option.bind_eq_some_iff.mp ev
    obtain ⟨⟨b, M3⟩, e3, ev⟩ := Option.bind_eq_some_iff.mp ev
    exact ⟨as, ρ, M, x, M1, sr, mr, e1, fun v as1 H1 g1 m1 r1 => ⟨as1, ρ, M1, a, M2, sr.gr g1, m1, e2, fun as2 H2 g2 m2 => ⟨as2, ρ, M2, b, M3, (sr.gr g1).gr g2, m2, e3, fun as3 H3 g3 m3 => ⟨as3, M3, x, d, M', m3, (r1.gr g2).gr g3, ev, fun w as4 H4 g4 m4 r4 => k w as4 H4 (((g1.trans g2).trans g3).trans g4) m4 r4⟩⟩⟩⟩
end

/-! ### ends -/
section
variable {P : Program} {w : World} {K : Kx} {mg : Str → Option Value} {base : Heap} {k n : Nat} {f : Addr} {fd : FuncData} {ps : List Str}
theorem vr_written {as : List Addr} {H : Hp} {q : Addr} {od : Option Addr} {its : Array Value} {n : Nat} {sl : Array (Option Value)} {xs : List V} {ds : List D}
    (k : K.K.lookup q = some ⟨.type "tuple", od, .seq its n, sl⟩) (hz : its.size ≤ sizeLine) (hd : VRs K as H xs ds) (rel : Vals xs its.toList) : VR K as H (.ref q) (.tup ds) :=
  .tup (.inr fun _ => .inr ⟨_, its, n, k, rfl, rfl, hz, rel⟩) hd
theorem ints_vr {as : List Addr} {H : Hp} : ∀ ns : List Int, VRs K as H (ns.map V.int) (ns.map D.int)
  | [] => .nil
  | n :: ns => .cons (.int n) (ints_vr ns)
theorem law_sp {m : GL} (h : ∀ ns : List Int, ns.length ≤ 63 → ∃ M, m [.rol (ns.map D.int)] [] = some (.bl true, M)) {vs : List V} {H : Hp} {Q : VK} {E : XK}
    (q : ∃ (a : Addr) (ns : List Int), vs = [.ref a] ∧ Only H ∧ SqL K.K H a (ns.map V.int) ∧ ns.length ≤ 63 ∧ ∀ H', Q (.bl true) H') : spM K 1 m vs H Q E := by
  obtain ⟨a, ns, rfl, hO, hS, hl, k⟩ := q
  obtain ⟨M, e⟩ := h ns hl
  have r : RolS K H a (ns.map V.int) := by
    rcases hS with hS | hS
    · rcases hS with hS | ⟨o, hS⟩
      · rcases hO a with z | ⟨o, xs, z⟩ <;> rw [hS] at z <;> cases z
      · exact .inl ⟨o, hS⟩
    · exact .inr fun _ => .inr hS
  refine ⟨[], [], _, _, M, rfl, MR.nil, .cons (.rol r (ints_vr ns)) .nil, e, fun v as' H' g m rv => ?_⟩
  cases rv
  exact k H'
end
section
variable {K : Kx} {X : Cx} {e : Expr} {es : List Expr} {fe : FE} {fr : FA} {pos p tpos p1 p2 : Pos}
/- isinstance(x, (T1, T2)) -/
def gT2 (T1 T2 : String) : G1 := fun d M => (tyOf d M).bind fun t => (kitB t T1).bind fun a => (kitB t T2).map fun b => (.bl (a || b), M)
end

/-! ### a class without __init__ -/
/-! ### further: what is never come to, defs as values, several targets, objects -/
section
variable {K : Kx} {X : Cx} {e o : Expr} {es : List Expr} {fe fo : FE} {fa : FA} {pos p apos : Pos} {x : Str} {n : Nat}
/- a call of what a slot holds -/
def fnOf2 (tbl : Nat → Option (List D → Option D)) (i : Nat) (ρ : Rho) : Option (List D → Option D) := match ρ[i]? with
  | some (some (.fn n)) => tbl n
  | _ => none
def fCV (tbl : Nat → Option (List D → Option D)) (i : Nat) (fa : FA) : FE := fun ρ M => (fnOf2 tbl i ρ).bind fun m => fCP m fa ρ M
/-! several targets -/
def sAs2 (f : FE) (g1 g2 : FG) : FS := fun ρ M => (f ρ M).bind fun p => (g1 p.1 ρ).bind fun ρ1 => (g2 p.1 ρ1).map fun ρ2 => (.nx ρ2, p.2)
def sAs4 (f : FE) (g1 g2 g3 g4 : FG) : FS := fun ρ M => (f ρ M).bind fun p => (g1 p.1 ρ).bind fun ρ1 => (g2 p.1 ρ1).bind fun ρ2 => (g3 p.1 ρ2).bind fun ρ3 => (g4 p.1 ρ3).map fun ρ4 => (.nx ρ4, p.2)
end
section
variable {K : Kx} {X : Cx} {e : Expr} {fe : FE} {pos : Pos}
/- a fourth target, as Assign_three has three -/
end
/-! ### objects -/
def insAt (M : Mem) (i : Nat) : Option (Nat × List (Str × D)) := match M[i]? with
  | some (.ins c fs) => some (c, fs)
  | _ => none
def gFld (cs : Nat → Bool) (f : Str) : G1
  | .rf i, M => (insAt M i).bind fun p => if cs p.1 = true then (p.2.lookup f).map fun d => (d, M) else none
  | _, _ => none
def putD (f : Str) (v : D) : List (Str × D) → List (Str × D)
  | [] => [(f, v)]
  | (g, x) :: r => if g = f then (g, v) :: r else (g, x) :: putD f v r
def setF (cs : Nat → Bool) (f : Str) (o d : D) (M : Mem) : Option Mem := match o with
  | .rf i => (insAt M i).bind fun p => if cs p.1 = true ∧ p.2.length < 500 then some (M.set i (.ins p.1 (putD f d p.2))) else none
  | _ => none
def sFldD (cs : Nat → Bool) (f : Str) (fe fo : FE) : FS := fun ρ M => (fe ρ M).bind fun p => (fo ρ p.2).bind fun q => (setF cs f q.1 p.1 q.2).map fun M' => (.nx ρ, M')
def fMk (c : Nat) (init : GL) (fa : FA) : FE := fun ρ M => (fa ρ M).bind fun p => (init (.rf p.2.length :: p.1) (p.2 ++ [.ins c []])).bind fun r => match r.1 with
  | .non => some (.rf p.2.length, r.2)
  | _ => none
def fMk0 (c : Nat) : FE := fun _ M => some (.rf M.length, M ++ [.ins c []])
/- o.m(..), by the class of o -/
def metOf (tbl : Nat → Option GL) (m : Str) (o : D) (M : Mem) : Option GL := match o with
  | .rf i => (insAt M i).bind fun p => if p.2.lookup m = none then tbl p.1 else none
  | _ => none
open Classical in
noncomputable def fMt (tbl : Nat → Option GL) (m : Str) (fo : FE) (fa : FA) : FE := fun ρ M => (fo ρ M).bind fun o => (metOf tbl m o.1 o.2).bind fun g => (fa ρ o.2).bind fun p => g (o.1 :: p.1) p.2
section
variable {K : Kx} {as : List Addr} {H : Hp} {M : Mem}
end
section
variable {K : Kx} {X : Cx} {e o : Expr} {es : List Expr} {fe fo : FE} {fa : FA} {pos p apos pos' : Pos} {x f : Str}
end
/-! a, b, c = x, y, z -/
section
variable {X : Cx}
variable {K : Kx}
def sPar3 (i j l : Nat) (fa : FA) : FS := fun ρ M => (fa ρ M).bind fun p => match p.1 with
  | [d, e, f] => some (.nx (((ρ.set i (some d)).set j (some e)).set l (some f)), p.2)
  | _ => none
end

/-! ### targets that take a list or a tuple apart -/
abbrev FM := D → Mem → Rho → Option Rho
def gTm (n : Nat) (gs : FGs) : FM := fun d M ρ => match d with
  | .tup ds => if ds.length = n then gs ds ρ else none
  | .rf j => match M[j]? with
    | some (.lst ds) => if ds.length = n then gs ds ρ else none
    | _ => none
  | _ => none
def bodyM (g : FM) (b : FS) : D → Rho → Mem → Option (Fl × Mem) := fun d ρ M => (g d M ρ).bind fun ρ1 => b ρ1 M
noncomputable def sForM (fi : FI) (g : FM) (b : FS) : FS := fun ρ M => (fi ρ M).bind fun p => runG p.1.2 (bodyM g b) p.1.1 ρ p.2
def sAsgM (f : FE) (g : FM) : FS := fun ρ M => (f ρ M).bind fun p => (g p.1 p.2 ρ).map fun ρ1 => (.nx ρ1, p.2)
section
variable {K : Kx} {X : Cx} {vs : List Nat} {pos : Pos} {tg e : Expr} {fe : FE}
end

/-! ### further methods of lists, stars, membership, walks the other way, dicts of the module -/
theorem VRs.dropLast {K : Kx} {as : List Addr} {H : Hp} {xs : List V} {ds : List D} (h : VRs K as H xs ds) : VRs K as H xs.dropLast ds.dropLast := by
  rw [List.dropLast_eq_take, List.dropLast_eq_take, h.len]
  exact h.take _
def mPop : D → GL
  | .rf l, [], M => match M[l]? with
    | some (.lst ds) => match ds[ds.length - 1]? with
      | some d => some (d, M.set l (.lst ds.dropLast))
      | none => none
    | _ => none
  | _, _, _ => none
def mIns : D → GL
  | .rf l, [.int i, d], M => match M[l]? with
    | some (.lst ds) => if ds.length < 100000 ∧ 0 ≤ i ∧ i < 100000 then some (.non, M.set l (.lst (ds.take i.toNat ++ [d] ++ ds.drop i.toNat))) else none
    | _ => none
  | _, _, _ => none
def fStar (fe : FE) (fr : FA) : FA := fun ρ M => (fe ρ M).bind fun p => (seqOf p.1 p.2).bind fun ds => (fr ρ p.2).bind fun q => some (ds ++ q.1, q.2)
def D.flat : D → Bool
  | .non => true
  | .bl _ => true
  | .int _ => true
  | .str _ => true
  | _ => false
def D.eqFl : D → D → Bool
  | .non, .non => true
  | .bl a, .bl b => a == b
  | .bl a, .int b => (if a then 1 else 0) == b
  | .int a, .bl b => a == (if b then 1 else 0)
  | .int a, .int b => a == b
  | .str a, .str b => a == b
  | _, _ => false
def gInB (neg : Bool) : G2 := fun x y M => (seqOf y M).bind fun ds => if x.flat = true ∧ ds.all D.flat = true then some (.bl (if neg then !(ds.any fun y => y.eqFl x) else ds.any fun y => y.eqFl x), M) else none
def gIn : G2 := gInB false
def gNotIn : G2 := gInB true
def fDc (tab : List (Str × Int)) (fk : FE) : FE := fun ρ M => (fk ρ M).bind fun p => match p.1 with
  | .str z => (tab.lookup z).map fun i => (.int i, p.2)
  | _ => none
def revOf : D → Mem → Option Src
  | .tup ds, _ => some (ds.reverse, fun _ => True)
  | .rf j, M => match M[j]? with
    | some (.lst ds) => some (ds.reverse, fun M' => M'[j]? = some (.lst ds))
    | _ => none
  | _, _ => none
def iRv (fe : FE) : FI := fun ρ M => (fe ρ M).bind fun p => (revOf p.1 p.2).map fun s => (s, p.2)
section
variable {K : Kx} {X : Cx} {o e a b : Expr} {es : List Expr} {fo fe fa' fk : FE} {fa fr : FA} {pos apos cpos p2 : Pos}
end
/- a dict of the module, entry by entry -/
/-! ### a range walked from its end -/
section
variable {K : Kx} {X : Cx} {pos : Pos}
def downto (n : Nat) : List D := (List.range n).map fun i : Nat => .int ((n : Int) - 1 - i)
def iRr (fa : FE) : FI := fun ρ M => (fa ρ M).bind fun p => match p.1 with
  | .int j => if j ≤ 100000 ∧ -100000 ≤ j then some ((downto j.toNat, fun _ => True), p.2) else none
  | _ => none
end

/-! ### is, is not of truths -/
def gIsBl : G2
  | .bl a, .bl b, M => some (.bl (decide (a = b)), M)
  | _, _, _ => none
def gNotBl : G2
  | .bl a, .bl b, M => some (.bl (!decide (a = b)), M)
  | _, _, _ => none
section
variable {K : Kx} {X : Cx}
end
theorem isBlE (a b : Bool) (M : Mem) : gIsBl (.bl a) (.bl b) M = some (.bl (decide (a = b)), M) := rfl
theorem notBlE (a b : Bool) (M : Mem) : gNotBl (.bl a) (.bl b) M = some (.bl (!decide (a = b)), M) := rfl
/-! ### the least of a list of whole numbers -/
def minI : List Int → Int
  | [] => 0
  | [n] => n
  | n :: m :: r => min n (minI (m :: r))
def bMin1 : GL
  | [d], M => (lstOf d M).bind fun ds => (D.ints ds).bind fun ns => if ns = [] then none else some (.int (minI ns), M)
  | _, _ => none
section
variable {K : Kx} {X : Cx}
end

/-! ### zip of three and of four tuples -/
def trips : List D → List D → List D → List D
  | a :: as, b :: bs, c :: cs => .tup [a, b, c] :: trips as bs cs
  | _, _, _ => []
def quads : List D → List D → List D → List D → List D
  | a :: as, b :: bs, c :: cs, d :: ds => .tup [a, b, c, d] :: quads as bs cs ds
  | _, _, _, _ => []
theorem quads_len : ∀ as bs cs ds : List D, (quads as bs cs ds).length = min as.length (min bs.length (min cs.length ds.length))
  | [], _, _, _ => by simp [quads]
  | _ :: _, [], _, _ => by simp [quads]
  | _ :: _, _ :: _, [], _ => by simp [quads]
  | _ :: _, _ :: _, _ :: _, [] => by simp [quads]
  | _ :: as, _ :: bs, _ :: cs, _ :: ds => by simp only [quads, List.length_cons, quads_len as bs cs ds]; omega
theorem quads_get : ∀ {as bs cs ds : List D} {i : Nat} {x : D}, (quads as bs cs ds)[i]? = some x → ∃ a b c d, as[i]? = some a ∧ bs[i]? = some b ∧ cs[i]? = some c ∧ ds[i]? = some d ∧ x = .tup [a, b, c, d]
  | [], _, _, _, _, _, e => by simp [quads] at e
  | _ :: _, [], _, _, _, _, e => by simp [quads] at e
  | _ :: _, _ :: _, [], _, _, _, e => by simp [quads] at e
  | _ :: _, _ :: _, _ :: _, [], _, _, e => by simp [quads] at e
  | a :: _, b :: _, c :: _, d :: _, 0, _, e => by
    simp [quads] at e
    exact ⟨a, b, c, d, rfl, rfl, rfl, rfl, e.symm⟩
  | _ :: as, _ :: bs, _ :: cs, _ :: ds, i + 1, _, e => by
    simp only [quads, List.getElem?_cons_succ] at e ⊢
    exact quads_get e
def zipOf3 : D → D → D → Option (List D)
  | .tup a, .tup b, .tup c => some (trips a b c)
  | _, _, _ => none
def zipOf4 : D → D → D → D → Option (List D)
  | .tup a, .tup b, .tup c, .tup d => some (quads a b c d)
  | _, _, _, _ => none
def iZ3 (fa fb fc : FE) : FI := fun ρ M => (fa ρ M).bind fun p => (fb ρ p.2).bind fun q => (fc ρ q.2).bind fun r => (zipOf3 p.1 q.1 r.1).map fun l => ((l, fun _ => True), r.2)
def iZ4 (fa fb fc fd : FE) : FI := fun ρ M => (fa ρ M).bind fun p => (fb ρ p.2).bind fun q => (fc ρ q.2).bind fun r => (fd ρ r.2).bind fun t => (zipOf4 p.1 q.1 r.1 t.1).map fun l => ((l, fun _ => True), t.2)
section
variable {K : Kx} {X : Cx} {pos : Pos}
theorem tup4_new {as : List Addr} {H : Hp} {T : Addr} {x y z u : V} {a b c d : D} (hT : H T = none) (h1 : VR K as H x a) (h2 : VR K as H y b) (h3 : VR K as H z c) (h4 : VR K as H u d) : VR K as (upd H T (.tup [x, y, z, u])) (.ref T) (.tup [a, b, c, d]) :=
  have g : Gr as H as (upd H T (.tup [x, y, z, u])) := Gr.new hT
  .tup (.inl upd_same) (.cons (h1.gr g) (.cons (h2.gr g) (.cons (h3.gr g) (.cons (h4.gr g) .nil))))
theorem itr_zip4 {as : List Addr} {H : Hp} {a b c a4 : Addr} {ds es fs hs : List D} {g1 g2 g3 g4 : Mem → Prop} (h1 : SrcR K as H true a ds g1) (h2 : SrcR K as H true b es g2) (h3 : SrcR K as H true c fs g3) (h4 : SrcR K as H true a4 hs g4) (t1 : ∀ M, g1 M) (t2 : ∀ M, g2 M) (t3 : ∀ M, g3 M) (t4 : ∀ M, g4 M) : ItR K as H (ItzN K.K [(true, a), (true, b), (true, c), (true, a4)]) (quads ds es fs hs, fun _ => True) where
  stop := fun as' H' M g m _ => by
    obtain ⟨xs, s1, r1⟩ := h1 as' H' M g m (t1 M)
    obtain ⟨ys, s2, r2⟩ := h2 as' H' M g m (t2 M)
    obtain ⟨zs, s3, r3⟩ := h3 as' H' M g m (t3 M)
    obtain ⟨us, s4, r4⟩ := h4 as' H' M g m (t4 M)
    refine ⟨fun c' hc => ?_, ?_⟩
    · simp only [List.mem_cons, List.not_mem_nil, or_false] at hc
      rcases hc with rfl | rfl | rfl | rfl
      · exact ⟨xs, s1⟩
      · exact ⟨ys, s2⟩
      · exact ⟨zs, s3⟩
      · exact ⟨us, s4⟩
    · have e1 := r1.len
      have e2 := r2.len
      have e3 := r3.len
      have e4 := r4.len
      by_cases h : ds.length ≤ es.length ∧ ds.length ≤ fs.length ∧ ds.length ≤ hs.length
      · exact ⟨(true, a), by simp, xs, s1, by rw [quads_len]; omega⟩
      · by_cases h' : es.length ≤ fs.length ∧ es.length ≤ hs.length
        · exact ⟨(true, b), by simp, ys, s2, by rw [quads_len]; omega⟩
        · by_cases h'' : fs.length ≤ hs.length
          · exact ⟨(true, c), by simp, zs, s3, by rw [quads_len]; omega⟩
          · exact ⟨(true, a4), by simp, us, s4, by rw [quads_len]; omega⟩
  go := fun as' H' M i d g m _ e => by
    obtain ⟨xs, s1, r1⟩ := h1 as' H' M g m (t1 M)
    obtain ⟨ys, s2, r2⟩ := h2 as' H' M g m (t2 M)
    obtain ⟨zs, s3, r3⟩ := h3 as' H' M g m (t3 M)
    obtain ⟨us, s4, r4⟩ := h4 as' H' M g m (t4 M)
    obtain ⟨p, q, r, t, e1, e2, e3, e4, rfl⟩ := quads_get e
    obtain ⟨v, f1, v1⟩ := r1.get e1
    obtain ⟨u, f2, v2⟩ := r2.get e2
    obtain ⟨w, f3, v3⟩ := r3.get e3
    obtain ⟨w4, f4, v4⟩ := r4.get e4
    refine ⟨fun c' hc => ?_, fun x H2 y => ?_⟩
    · simp only [List.mem_cons, List.not_mem_nil, or_false] at hc
      rcases hc with rfl | rfl | rfl | rfl
      · exact ⟨xs, v, s1, f1⟩
      · exact ⟨ys, u, s2, f2⟩
      · exact ⟨zs, w, s3, f3⟩
      · exact ⟨us, w4, s4, f4⟩
    · obtain ⟨T, vs, rfl, hT, rfl, hl, k⟩ := y
      match vs, hl with
      | [x1, y1, z1, u1], _ =>
        have := k 0 _ x1 rfl rfl xs s1
        rw [f1] at this; cases this
        have := k 1 _ y1 rfl rfl ys s2
        rw [f2] at this; cases this
        have := k 2 _ z1 rfl rfl zs s3
        rw [f3] at this; cases this
        have := k 3 _ u1 rfl rfl us s4
        rw [f4] at this; cases this
        exact ⟨Gr.new hT, m.new hT, tup4_new hT v1 v2 v3 v4⟩
theorem si_zip4 {a b c a4 : Expr} {fa fb fc fd : FE} {p tpos : Pos} {elts : List Expr} {kk : Nat} (hg : Gl X "zip") (hm : X.mg "zip" = none) (ha : SE K X a fa) (hb : SE K X b fb) (hc' : SE K X c fc) (hd' : SE K X a4 fd)
    (hs3 : starEach [a, b, c, a4] X.env = (false, eval a X.env) :: starEach [b, c, a4] X.env := by rfl) (hs4 : starEach [b, c, a4] X.env = (false, eval b X.env) :: starEach [c, a4] X.env := by rfl) (hs5 : starEach [c, a4] X.env = (false, eval c X.env) :: starEach [a4] X.env := by rfl) (hs6 : starEach [a4] X.env = (false, eval a4 X.env) :: starEach [] X.env := by rfl) (hpl : (backTo pos (starEach [b, c, a4] X.env)).any (·.1) = false := by rfl) :
    SI K X (.Tuple elts kk tpos) (.Call (.Name "zip" p) [a, b, c, a4] [] pos) (iZ4 fa fb fc fd) :=
  fun hK hc => by
    obtain ⟨_, Γ⟩ := K
    cases hK
    refine pi_mono (pi_zipN hg hm (pa_cons (ha rfl hc) (pa_cons (hb rfl hc) (pa_cons (hc' rfl hc) (pa_cons (hd' rfl hc) pa_nil hs6) hs5) hs4) hs3) hs3 hpl) fun σ H R ⟨as, ρ, M, sc, M', sr, mr, ev, k⟩ => ?_
    unfold iZ4 at ev
    obtain ⟨⟨d, M1⟩, e1, ev⟩ := Option.bind_eq_some_iff.mp ev
    obtain ⟨⟨e, M2⟩, e2, ev⟩ := Option.bind_eq_some_iff.mp ev
    obtain ⟨⟨f, M3⟩, e3, ev⟩ := Option.bind_eq_some_iff.mp ev
    obtain ⟨⟨f4, M4⟩, e5, ev⟩ := Option.bind_eq_some_iff.mp ev
    obtain ⟨sc', e4, ev⟩ := Option.map_eq_some_iff.mp ev
    cases ev
    refine ⟨as, ρ, M, d, M1, sr, mr, e1, fun v as1 H1 g1 m1 r1 => ⟨as1, ρ, M1, e, M2, sr.gr g1, m1, e2, fun u as2 H2 g2 m2 r2 => ⟨as2, ρ, M2, f, M3, (sr.gr g1).gr g2, m2, e3, fun w as3 H3 g3 m3 r3 => ⟨as3, ρ, M3, f4, M4, ((sr.gr g1).gr g2).gr g3, m3, e5, fun w4 as4 H4 g4 m4 r4 => ?_⟩⟩⟩⟩
    cases r1 with
    | @tup a1 xs1 ds1 h1 hs1 =>
      cases r2 with
      | @tup a2 xs2 ds2 h2 hs2 =>
        cases r3 with
        | @tup a3 xs3 ds3 h3 hs3' =>
          cases r4 with
          | @tup a5 xs4 ds4 h4 hs4' =>
            cases e4
            have q1 := (srcT h1 hs1).gr (g2.trans (g3.trans g4))
            have q2 := (srcT h2 hs2).gr (g3.trans g4)
            have q3 := (srcT h3 hs3').gr g4
            have q4 := srcT h4 hs4'
            refine ⟨[(true, a1), (true, a2), (true, a3), (true, a5)], rfl, .inr (.inr rfl), fun c hc => ?_, k _ as4 H4 (g1.trans (g2.trans (g3.trans g4))) m4 (itr_zip4 q1 q2 q3 q4 (fun _ => trivial) (fun _ => trivial) (fun _ => trivial) fun _ => trivial)⟩
            simp only [List.mem_cons, List.not_mem_nil, or_false] at hc
            rcases hc with rfl | rfl | rfl | rfl
            · obtain ⟨xs, s, _⟩ := q1 as4 H4 M4 Gr.refl m4 trivial
              exact ⟨xs, s⟩
            · obtain ⟨xs, s, _⟩ := q2 as4 H4 M4 Gr.refl m4 trivial
              exact ⟨xs, s⟩
            · obtain ⟨xs, s, _⟩ := q3 as4 H4 M4 Gr.refl m4 trivial
              exact ⟨xs, s⟩
            · obtain ⟨xs, s, _⟩ := q4 as4 H4 M4 Gr.refl m4 trivial
              exact ⟨xs, s⟩
          | _ => cases e4
        | _ => cases e4
      | _ => cases e4
    | _ => cases e4
end

/-! ### list(range(a, b)), list(range(a)) -/
open Classical in
noncomputable def fLR2 (fa fb : FE) : FE := fun ρ M => (fa ρ M).bind fun p => (fb ρ p.2).bind fun q => match p.1, q.1 with
  | .int i, .int j => if j ≤ 100000 ∧ -100000 ≤ i ∧ -100000 ≤ j ∧ i ≤ 100000 then some (.rf q.2.length, q.2 ++ [.lst (upto i (j - i).toNat)]) else none
  | _, _ => none
section
variable {K : Kx} {X : Cx} {pos : Pos}
end

/-! ### list.remove of data -/
section
variable {X : Cx}
variable {K : Kx} {o e : Expr} {es : List Expr} {fo : FE} {fa : FA} {apos cpos : Pos}
end

/-! ### repr of data, where no repr is under way -/
open Classical in
noncomputable def bRepr : GL
  | [d], M => (toPy M d).bind fun p => match d, p with
    | .non, _ => some (.str "None", M)
    | .int _, .int i => if i.natAbs.log2 < 1920 then some (.str (toString i), M) else none
    | .tup _, p => if p.showable = true ∧ p.hasDict = false ∧ p.depth ≤ 60 ∧ p.shown.length ≤ sizeLine then some (.str p.shown, M) else none
    | .rol _, p => if p.showable = true ∧ p.hasDict = false ∧ p.depth ≤ 60 ∧ p.shown.length ≤ sizeLine then some (.str p.shown, M) else none
    | .rf _, p => if p.showable = true ∧ p.hasDict = false ∧ p.depth ≤ 60 ∧ p.shown.length ≤ sizeLine then some (.str p.shown, M) else none
    | _, _ => none
  | _, _ => none
section
variable {K : Kx} {X : Cx}
theorem cr_repr' (hg : X.A.guards = some []) (hu : X.A.units + 64 < cLine) : X.K = K.K → X.calm = true → CallR X (.builtin "repr") (rL K bRepr) := fun hK _ pins s σ H xs us Q I r hh => by
  obtain ⟨_, Γ⟩ := K
  cases hK
  obtain ⟨as, M, ds, d, M', m, q, ev, k⟩ := hh
  unfold bRepr at ev
  split at ev
  · rename_i dd
    obtain ⟨p, hp, ev⟩ := Option.bind_eq_some_iff.mp ev
    cases q with
    | @cons x _ _ _ q qs =>
    cases qs
    have hd := q.dpM m hp
    obtain ⟨u, rfl, ru⟩ := r.one
    obtain ⟨bs, rd⟩ := Dp.reads I p x u hd ru
    have core : ∀ a, u = .ref a → (if p.showable = true ∧ p.hasDict = false ∧ p.depth ≤ 60 ∧ p.shown.length ≤ sizeLine then some (D.str p.shown, M) else none) = some (d, M') → wpAny (model X.prog X.w) X.A (call (.builtin "repr") [u]) (fun v s' => ∃ x H', Inv X pins σ H' s' ∧ RelV x v ∧ Q x H') X.xe s := fun a ha ev => by
      subst ha
      split at ev
      · rename_i hc
        cases ev
        exact repr_of_reads' rd hc.1 (PyData.noDict_hsm hc.2.1) hg (by omega) (fun _ _ e => e) (fun h' tk t' hk => ⟨.str _, H, I.kept hk, ⟨_, rfl⟩, k _ as H Gr.refl m (.str _)⟩) hc.2.2.2
      · cases ev
    split at ev
    · cases ev
      cases q
      cases ru
      exact PySem.P.repr_of_none ⟨.str _, H, I.tok _, ⟨_, rfl⟩, k _ as H Gr.refl m (.str _)⟩
    · split at ev
      · rename_i hz
        cases ev
        cases hd
        obtain ⟨t, rfl⟩ := ru
        exact PySem.P.repr_of_int hz ⟨.str _, H, I.tok _, ⟨_, rfl⟩, k _ as H Gr.refl m (.str _)⟩
      · cases ev
    · cases q
      exact core _ ru ev
    · cases q
      exact core _ ru ev
    · cases q
      exact core _ ru ev
    · cases ev
  · cases ev
end

/-! ### law itself at the run's own start, where no repr is under way -/
def AtTop (P : Program) (w : World) (K : PySem.W.Frag) (mg : Str → Option Value) (base : Heap) (f : Addr) (fd : FuncData) (ps : List Str) (sp : Sp) : Prop :=
  ∀ (outer : List Env) (s : Shared) (H : Hp) (args : Args) (us : List Value) (vs : List V) (Q : VK) (E : XK), Env0 P w K mg base callerA outer s H → BindsTo s fd args (ps.zip us) → Vals vs us → sp vs H Q E → codeAny (model P w) callerA (.call (.ref f) args) (CR CX0 outer P w H s Q E) s
section
variable {P : Program} {w : World} {K : Kx} {mg : Str → Option Value} {base : Heap}
theorem top_M {x qual : Str} {st : Stmt} {f : Addr} {fd : FuncData} {N ps : List Str} {k : Nat} {fb : FS} (hk : Room (k + 1) callerA) (F : Fun K.K x qual st f fd) (S : FnScope N ps (defScope st))
    (hb : ∀ (cdv : Value) (A : Around) (outer : List Env) (s : Shared) (H : Hp) (E : XK), Room k (A.deeper (envOfC qual (defScope st) s.heap.objs.size f cdv)) → (A.deeper (envOfC qual (defScope st) s.heap.objs.size f cdv)).guards = some [] → SSs K (cxOf CX0 P w K.K mg base N qual (defScope st) f cdv A outer s H E).nox (defBody st) fb) :
    AtTop P w K.K mg base f fd ps (spM K ps.length (mkM ps.length N.length fb)) := by
  obtain ⟨oc, od, kV, doc, pm, an, cdv, ct, osl, rfl, lk, hcd⟩ := F.ex
  intro outer s H args us vs Q E e0 hbind hvals hsp
  obtain ⟨as, M, ds, d, M', hl, mr, rs, e, kk⟩ := hsp
  have hlen := mkM_len e
  unfold mkM at e
  rw [if_pos hlen] at e
  obtain ⟨⟨fl, M1⟩, e1, e⟩ := Option.bind_eq_some_iff.mp e
  have old : ∀ b o, base.get? b = some o → s.heap.get? b = some o := fun b o z => (e0.bs b o z).1
  have start_ : rS K fb { nx := fun _ H' => Q .non H', rt := Q } (start N vs) H := by
    refine ⟨as, startD N.length ds, M, fl, M1, SR.start rs, mr, e1, ?_⟩
    cases fl with
    | rt d' =>
      cases e
      exact fun v as' H' g m r => kk v as' H' g m r
    | nx ρ =>
      cases e
      exact fun σ' as' H' g m r => kk .non as' H' g m .non
    | bk ρ => cases e
    | ct ρ => cases e
  refine codeAny_call_function hk.depth ((e0.mod.kin.keeps old) _ _ lk) rfl S.co S.gen rfl (PySem.W.codeRec_of (e0.mod.kin.keeps old) hcd) (hbind _ _ _ _ ?_)
  refine wpAny_newFunctionEnv_cells S.kind (fun y hy => ?_) fun env he s1 x => ?_
  · rcases S.par y.1 (List.of_mem_zip hy).1 with z | z
    · exact .inl z
    · exact .inr ⟨z, PySem.W.cellsFrom_some _ _ _ (.inl z)⟩
  subst he
  refine ⟨(e0.mod.nolimit.keeps old).keeps x.toInCall.keep, codeAny_func ?_⟩
  have I : Inv (cxOf CX0 P w K.K mg base N qual (defScope st) f cdv callerA outer s H E) [] (start N vs) H s1 := inv_start S hk.hd e0 hl hvals x
  have body := (hb cdv callerA outer s H E (hk.deeper _) rfl rfl rfl).nox
  refine wpAny_mono (body.run [] s1 (start N vs) H _ I start_) (fun fl s' hs => ?_) fun _ _ z => z
  cases fl with
  | ret u =>
    obtain ⟨v, σ', H', J, rv, q⟩ := hs
    exact ⟨v, H', J.os, J.bare, J.base, J.hok, rv, q⟩
  | next =>
    obtain ⟨σ', H', J, q⟩ := hs
    exact ⟨V.non, H', J.os, J.bare, J.base, J.hok, rfl, q⟩
  | brk =>
    obtain ⟨_, _, _, q⟩ := hs
    exact False.elim q
  | cont =>
    obtain ⟨_, _, _, q⟩ := hs
    exact False.elim q
end
/- the script's own list is all that is tracked at the start, where the module does not hold it -/
open Classical in
noncomputable def topH (K : PySem.W.Frag) (a : Addr) (vs : List Value) (ns : List Int) : Hp := fun b => if b = a ∧ K.lookup a = none then some (.frz { cls := .type "list", data := .seq vs.toArray } (.lst (ns.map V.int))) else none
theorem topH_on {K : PySem.W.Frag} {a b : Addr} {vs : List Value} {ns : List Int} {o : HO} (h : topH K a vs ns b = some o) : b = a ∧ K.lookup a = none ∧ o = .frz { cls := .type "list", data := .seq vs.toArray } (.lst (ns.map V.int)) := by
  unfold topH at h
  split at h
  · next c =>
    cases h
    exact ⟨c.1, c.2, rfl⟩
  · cases h
theorem law_top {P : Program} {w : World} {K : PySem.W.Frag} {mg mb : Str → Option Value} {fa a : Addr} {fd : FuncData} {x : Str} {sp : Sp} {s : Shared} {vs : List Value} {ns : List Int}
    (KX : K.In s.heap) (hns : s.heap.Ns mainGlobals mg) (hb : s.heap.Ns builtinsNs mb) (hbb : ∀ x : Str, x ≠ "__name__" → mb x = bootBuiltins x) (hlim : s.heap.NoLimit) (hg : s.gens = #[])
    (ha : s.heap.get? a = some { cls := .type "list", data := .seq vs.toArray }) (hi : IntsAre vs ns) (hl : ns.length ≤ sizeLine)
    (F : ∀ base : Heap, K.In base → base.Ns mainGlobals mg → AtTop P w K mg base fa fd [x] sp) (hbind : ∀ (s : Shared) (u : Value), BindsTo s fd ⟨[u], []⟩ [(x, u)])
    (hsp : ∀ H : Hp, Only H → SqL K H a (ns.map V.int) → sp [.ref a] H (fun v _ => v = .bl true) fun _ _ _ => False) :
    codeAny (model P w) callerA (.call (.ref fa) ⟨[.ref a], []⟩) (fun r s' => r = .ok (.ret (.bool true)) ∧ OldK s.heap s'.heap ∧ s'.os = s.os ∧ AllBare s'.gens) s := by
  have rv := vals_ints hi
  have lv := hi.length
  generalize hH : topH K a vs ns = H
  have on : ∀ {b o}, H b = some o → b = a ∧ K.lookup a = none ∧ o = .frz { cls := .type "list", data := .seq vs.toArray } (.lst (ns.map V.int)) := fun {b o} e => topH_on (by rw [hH]; exact e)
  have stay : ∀ {b : Addr} {o : Obj}, s.heap.get? b = some o → H b = none → (hidT s.heap H).get? b = some o := fun e n => hidT_get e n
  have nodict : ∀ {b : Addr} {o : Obj} {es : Array DictEntry} {ep : Nat}, s.heap.get? b = some o → o.data = .dict es ep → H b = none := fun {b o es ep} e d => by
    cases q : H b with
    | none => rfl
    | some u =>
      obtain ⟨rfl, _⟩ := on q
      rw [ha] at e
      cases e
      cases (show Data.seq vs.toArray _ = Data.dict es ep from d)
  have nsT : ∀ {b : Addr} {m : Str → Option Value}, s.heap.Ns b m → (hidT s.heap H).Ns b m := fun {b m} ⟨o, es, ep, e, d, r⟩ => ⟨o, es, ep, stay e (nodict e d), d, r⟩
  have inT : K.In (hidT s.heap H) := fun b o e => stay (KX b o e) (by
    cases q : H b with
    | none => rfl
    | some u =>
      obtain ⟨rfl, z, _⟩ := on q
      rw [z] at e
      cases e)
  have only : Only H := fun b => by
    cases q : H b with
    | none => exact .inl rfl
    | some u =>
      obtain ⟨_, _, rfl⟩ := on q
      exact .inr ⟨_, _, rfl⟩
  have sq : SqL K H a (ns.map V.int) := by
    cases hk : K.lookup a with
    | none => exact .inl (.inr ⟨{ cls := .type "list", data := .seq vs.toArray }, by rw [← hH]; exact if_pos ⟨rfl, hk⟩⟩)
    | some o =>
      have e := KX a o hk
      rw [ha] at e
      cases e
      exact .inr ⟨_, vs.toArray, _, hk, rfl, rfl, rfl, by rw [List.size_toArray, lv]; exact hl, by simpa using rv⟩
  have hok : HOk P w H s.heap := fun b u z => by
    obtain ⟨rfl, _, rfl⟩ := on z
    exact ⟨ha, by rw [List.length_map]; exact hl, vs, _, rv, ha⟩
  have md : Mod K mg (hidT s.heap H) := ⟨inT, nsT hns, ⟨mb, nsT hb, hbb⟩, let ⟨m, h1, h2⟩ := hlim; ⟨m, nsT h1, h2⟩⟩
  have e0 : Env0 P w K mg (hidT s.heap H) callerA [] s H := ⟨rfl, md, fun b o e => of_hidT e, Nat.le_of_eq (hidT_size _ _), trivial, fun b hb => (nomatch hb), hok, .of_eq hg⟩
  refine codeAny_mono (F _ inT (nsT hns) [] s H ⟨[.ref a], []⟩ [.ref a] [.ref a] _ _ e0 (hbind s (.ref a)) (.cons rfl .nil) (hsp H only sq)) fun r s' h => ?_
  match r, h with
  | .error e, h => exact False.elim h
  | .ok .next, h => exact False.elim h
  | .ok .brk, h => exact False.elim h
  | .ok .cont, h => exact False.elim h
  | .ok (.ret u), ⟨v, H', os, bare, un, hok', ru, q⟩ =>
    obtain rfl : v = .bl true := q
    obtain rfl : u = Value.bool true := ru
    refine ⟨rfl, OldK.of_keep fun b o e => ?_, os, bare⟩
    cases q : H b with
    | none => exact un.keep b o e q (fun z => (nomatch z)) (fun z => (nomatch z))
    | some t =>
      obtain ⟨_, _, rfl⟩ := on q
      have z2 := un.frzs b _ _ q
      obtain ⟨e1, _⟩ := hok b _ q
      obtain ⟨e2, _⟩ := hok' b _ z2
      rw [e] at e1
      cases e1
      exact e2
theorem walk_top {l : PySem.W.OpenLaw} {n : Nat} {q : Program} {loose : List Str} {XP : (Str → Option Value) → Heap → Prop} {YP : World → Heap → Prop} {d : DefRec} {K : Params → PySem.W.Frag} {sp : World → Sp} {x : Str}
    (hn : l.most = some n) (hn2 : n ≤ sizeLine) (hdf : d.params.defaults = []) (hY : ∀ (w : World) (h : Heap), YP w h → (K w.params).In h)
    (F : ∀ (w : World) (mg : Str → Option Value) (fa : Addr) (h : Heap), (K w.params).In h → h.Ns mainGlobals mg → mg d.name = some (.ref fa) →
      ∃ fd : FuncData, (∀ (s : Shared) (u : Value), BindsTo s fd ⟨[u], []⟩ [(x, u)]) ∧ ∀ base : Heap, (K w.params).In base → base.Ns mainGlobals mg → AtTop l.prog w (K w.params) mg base fa fd [x] (sp w))
    (hsp : ∀ (w : World) (H : Hp) (a : Addr) (ns : List Int), ns.length ≤ n → Only H → SqL (K w.params) H a (ns.map V.int) → sp w [.ref a] H (fun v _ => v = .bl true) fun _ _ _ => False) :
    PySem.W.WalkO q loose XP YP l.row.toRowW d [] (fun f vs => PySem.call f vs) :=
  Att.attach_call hn hdf fun w s₀ s₁ mg mb fa o pm cd doc a vs ns G Y ho hd hcd hmg hobj hints hlen hg =>
    let ⟨_, hb, hF⟩ := F w mg fa _ (hY w _ Y) G.T.g hmg
    law_top (hY w _ Y) G.T.g G.T.b G.T.builtins G.T.nolimit hg hobj hints (Nat.le_trans hlen hn2) hF hb fun H hO hS => hsp w H a ns hlen hO hS

/-! ### xs[::-1] of a list -/
def gRev : G1
  | .rf j, M => match M[j]? with
    | some (.lst ds) => some (.rf M.length, M ++ [.lst ds.reverse])
    | _ => none
  | _, _ => none
section
variable {K : Kx} {X : Cx} {e : Expr} {fe : FE} {k : Nat} {p1 p2 p3 pos : Pos}
theorem se_rev (he : SE K X e fe) : SE K X (.Subscript e (.Slice none none (some (.UnaryOp .USub (.Constant (.int 1) k p1) p2)) p3) pos) (fU gRev fe) :=
  SE.imp (fun hK hc => pe_revL (he hK hc)) fun σ H Q ⟨as, ρ, M, d, M', sr, mr, ev, kk⟩ => by
    unfold fU at ev
    obtain ⟨⟨d1, M1⟩, e1, ev⟩ := Option.bind_eq_some_iff.mp ev
    refine ⟨as, ρ, M, d1, M1, sr, mr, e1, fun v as1 H1 g1 m1 r1 => ?_⟩
    dsimp only at ev
    unfold gRev at ev
    split at ev
    · rename_i j
      split at ev
      · rename_i ds hd
        cases ev
        cases r1 with
        | @rf _ a h =>
          obtain ⟨xs, p, rs⟩ := m1.lst h hd
          refine ⟨a, xs, rfl, .inl (.inl p), fun q hq => ?_⟩
          have gn : Gr as1 H1 (as1 ++ [q]) (upd H1 q (.lst xs.reverse)) := Gr.alloc hq
          exact kk _ _ _ (g1.trans gn) (m1.alloc hq ⟨_, upd_same, rs.rev.gr gn⟩) (.rf (by rw [← m1.len]; simp))
      · cases ev
    · cases ev
end

/-! ### the mirror run by rewriting: what follows is always a named thing, so that nothing is looked at ahead of its turn -/
/- said so that no rewriting takes it for a mere unfolding: the kernel would walk the whole program -/
theorem nrfl {α : Type} {a b : α} (h : a = b) : a = b := h
def ob {α β : Type} (x : Option α) (f : α → Option β) : Option β := x.bind f
theorem ob_s {α β : Type} (a : α) (f : α → Option β) : ob (some a) f = f a := rfl
theorem ob_n {α β : Type} (f : α → Option β) : ob none f = none := rfl
def vOf : Option (Option D) → Mem → Option (D × Mem)
  | some (some d), M => some (d, M)
  | _, _ => none
def kO2 (g : G2) (d : D) (p : D × Mem) : Option (D × Mem) := g d p.1 p.2
def kO (g : G2) (fb : FE) (ρ : Rho) (p : D × Mem) : Option (D × Mem) := ob (fb ρ p.2) (kO2 g p.1)
def kU (g : G1) (p : D × Mem) : Option (D × Mem) := g p.1 p.2
def kCons2 (d : D) (p : List D × Mem) : Option (List D × Mem) := some (d :: p.1, p.2)
def kCons (fr : FA) (ρ : Rho) (p : D × Mem) : Option (List D × Mem) := ob (fr ρ p.2) (kCons2 p.1)
def kL (g : GL) (p : List D × Mem) : Option (D × Mem) := g p.1 p.2
def kIf (fa fb : FE) (ρ : Rho) (p : Bool × Mem) : Option (D × Mem) := if p.1 = true then fa ρ p.2 else fb ρ p.2
def kB (p : D × Mem) : Option (Bool × Mem) := match p.1 with
  | .bl b => some (b, p.2)
  | _ => none
def kTr2 (M : Mem) (b : Bool) : Option (Bool × Mem) := some (b, M)
def kTr (p : D × Mem) : Option (Bool × Mem) := ob (gTru p.1 p.2) (kTr2 p.2)
def kAn (tb : FT) (ρ : Rho) (p : Bool × Mem) : Option (Bool × Mem) := if p.1 = true then tb ρ p.2 else some (false, p.2)
def kOr (tb : FT) (ρ : Rho) (p : Bool × Mem) : Option (Bool × Mem) := if p.1 = true then some (true, p.2) else tb ρ p.2
def kNo (p : Bool × Mem) : Option (Bool × Mem) := some (!p.1, p.2)
def kNotB (p : D × Mem) : Option (D × Mem) := match p.1 with
  | .bl b => some (.bl (!b), p.2)
  | _ => none
def kAnB (fb : FE) (ρ : Rho) (p : D × Mem) : Option (D × Mem) := match p.1 with
  | .bl c => if c = true then fb ρ p.2 else some (.bl false, p.2)
  | _ => none
def kOrB (fb : FE) (ρ : Rho) (p : D × Mem) : Option (D × Mem) := match p.1 with
  | .bl c => if c = true then some (.bl true, p.2) else fb ρ p.2
  | _ => none
def kTup (p : List D × Mem) : Option (D × Mem) := if p.1.length ≤ 100000 then some (.tup p.1, p.2) else none
def kLst (p : List D × Mem) : Option (D × Mem) := if p.1.length ≤ 100000 then some (.rf p.2.length, p.2 ++ [.lst p.1]) else none
def kD (M : Mem) (d : D) : Option (D × Mem) := some (d, M)
def kCP (m : List D → Option D) (p : List D × Mem) : Option (D × Mem) := ob (m p.1) (kD p.2)
def kML2 (g : D → GL) (d : D) (p : List D × Mem) : Option (D × Mem) := g d p.1 p.2
def kML (g : D → GL) (fr : FA) (ρ : Rho) (p : D × Mem) : Option (D × Mem) := if isLst p.1 p.2 = true then ob (fr ρ p.2) (kML2 g p.1) else none
def kS3 (d : D) (o : Option Int) (p : Option Int × Mem) : Option (D × Mem) := gSl d o p.1 p.2
def kS2 (hi : Option FE) (ρ : Rho) (d : D) (p : Option Int × Mem) : Option (D × Mem) := ob (oF hi ρ p.2) (kS3 d p.1)
def kS1 (lo hi : Option FE) (ρ : Rho) (p : D × Mem) : Option (D × Mem) := ob (oF lo ρ p.2) (kS2 hi ρ p.1)
def kI (p : D × Mem) : Option (Option Int × Mem) := match p.1 with
  | .int i => some (some i, p.2)
  | _ => none
def kCh3 (g' : G2) (fc : FE) (ρ : Rho) (e : D) (p : D × Mem) : Option (D × Mem) := match p.1 with
  | .bl k => if k = true then ob (fc ρ p.2) (kO2 g' e) else some (.bl false, p.2)
  | _ => none
def kCh2 (g g' : G2) (fc : FE) (ρ : Rho) (d : D) (p : D × Mem) : Option (D × Mem) := ob (g d p.1 p.2) (kCh3 g' fc ρ p.1)
def kCh1 (g g' : G2) (fb fc : FE) (ρ : Rho) (p : D × Mem) : Option (D × Mem) := ob (fb ρ p.2) (kCh2 g g' fc ρ p.1)
/- what follows a statement -/
def then_ (b : FS) (p : Fl × Mem) : Option (Fl × Mem) := match p.1 with
  | .nx ρ1 => b ρ1 p.2
  | fl => some (fl, p.2)
def kNx (M : Mem) (ρ : Rho) : Option (Fl × Mem) := some (.nx ρ, M)
def kAsg (g : FG) (ρ : Rho) (p : D × Mem) : Option (Fl × Mem) := ob (g p.1 ρ) (kNx p.2)
def par2 (i j : Nat) (ρ : Rho) (p : List D × Mem) : Option (Fl × Mem) := match p.1 with
  | [d, e] => some (.nx ((ρ.set i (some d)).set j (some e)), p.2)
  | _ => none
def kRet (p : D × Mem) : Option (Fl × Mem) := some (.rt p.1, p.2)
def kDrop (ρ : Rho) (p : D × Mem) : Option (Fl × Mem) := some (.nx ρ, p.2)
def kSif (sa sb : FS) (ρ : Rho) (p : Bool × Mem) : Option (Fl × Mem) := if p.1 = true then sa ρ p.2 else sb ρ p.2
def kNxM (ρ : Rho) (M : Mem) : Option (Fl × Mem) := some (.nx ρ, M)
def kSub3 (ρ : Rho) (d o : D) (p : D × Mem) : Option (Fl × Mem) := ob (setAt o p.1 d p.2) (kNxM ρ)
def kSub2 (fx : FE) (ρ : Rho) (d : D) (p : D × Mem) : Option (Fl × Mem) := ob (fx ρ p.2) (kSub3 ρ d p.1)
def kSub1 (fo fx : FE) (ρ : Rho) (p : D × Mem) : Option (Fl × Mem) := ob (fo ρ p.2) (kSub2 fx ρ p.1)
noncomputable def kFor (g : FG) (b : FS) (ρ : Rho) (p : Src × Mem) : Option (Fl × Mem) := runG p.1.2 (bodyG g b) p.1.1 ρ p.2
/- a turn's end -/
def turn (k : Rho → Mem → Option (Fl × Mem)) (q : Fl × Mem) : Option (Fl × Mem) := match q.1 with
  | .nx ρ1 => k ρ1 q.2
  | .ct ρ1 => k ρ1 q.2
  | .bk ρ1 => some (.nx ρ1, q.2)
  | .rt d => some (.rt d, q.2)
def kBody (b : FS) (M : Mem) (ρ : Rho) : Option (Fl × Mem) := b ρ M
def kSrc (M : Mem) (s : Src) : Option (Src × Mem) := some (s, M)
def kIE (p : D × Mem) : Option (Src × Mem) := ob (itemsOf p.1 p.2) (kSrc p.2)
def kR1 (p : D × Mem) : Option (Src × Mem) := match p.1 with
  | .int j => if j ≤ 100000 ∧ -100000 ≤ j then some ((upto 0 j.toNat, fun _ => True), p.2) else none
  | _ => none
def kR2b (d : D) (p : D × Mem) : Option (Src × Mem) := match d, p.1 with
  | .int i, .int j => if j ≤ 100000 ∧ -100000 ≤ i ∧ -100000 ≤ j ∧ i ≤ 100000 then some ((upto i (j - i).toNat, fun _ => True), p.2) else none
  | _, _ => none
def kR2 (fb : FE) (ρ : Rho) (p : D × Mem) : Option (Src × Mem) := ob (fb ρ p.2) (kR2b p.1)
def kZ2 (d : D) (p : D × Mem) : Option (Src × Mem) := ob (zipOf d p.1 p.2) (kSrc p.2)
def kZ1 (fb : FE) (ρ : Rho) (p : D × Mem) : Option (Src × Mem) := ob (fb ρ p.2) (kZ2 p.1)
def enOf : D → Mem → Option Src
  | .rf j, M => match M[j]? with
    | some (.lst ds) => some (numbered ds, fun M' => M'[j]? = some (.lst ds))
    | _ => none
  | .rol ds, _ => some (numbered ds, fun _ => True)
  | .tup ds, _ => some (numbered ds, fun _ => True)
  | _, _ => none
def kEn (p : D × Mem) : Option (Src × Mem) := ob (enOf p.1 p.2) (kSrc p.2)
def kMap2 (od : Option D) (p : List D × Mem) : Option (List D × Mem) := some (od.toList ++ p.1, p.2)
noncomputable def kMap (gd : Mem → Prop) (it : D → Mem → Option (Option D × Mem)) (ds : List D) (p : Option D × Mem) : Option (List D × Mem) := ob (mapG gd it ds p.2) (kMap2 p.1)
def kSome (p : D × Mem) : Option (Option D × Mem) := some (some p.1, p.2)
def kIt2 (te : FE) (ρ : Rho) (p : Bool × Mem) : Option (Option D × Mem) := if p.1 = true then ob (te ρ p.2) kSome else some (none, p.2)
def kIt1 (tt : FT) (te : FE) (M : Mem) (ρ : Rho) : Option (Option D × Mem) := ob (tt ρ M) (kIt2 te ρ)
def kLc2 (n : Nat) (p : List D × Mem) : Option (D × Mem) := if n ≤ 100000 then some (.rf p.2.length, p.2 ++ [.lst p.1]) else none
noncomputable def kLc (g : FG) (tt : FT) (te : FE) (vs : List Nat) (ρ : Rho) (p : Src × Mem) : Option (D × Mem) := ob (mapG p.1.2 (itemG g tt te (wipeD ρ vs)) p.1.1 p.2) (kLc2 p.1.1.length)
def finP (p : Fl × Mem) : Option D := match p.1 with
  | .rt d => if d.imm = true then some d else none
  | .nx _ => some .non
  | _ => none
def finM (p : Fl × Mem) : Option (D × Mem) := match p.1 with
  | .rt d => some (d, p.2)
  | .nx _ => some (.non, p.2)
  | _ => none
def kGc (n : Nat) (p : D × Mem) : Option (D × Mem) := some (gc n p)
section
variable (ρ : Rho) (M : Mem) (i j n : Nat) (d e : D) (b : Bool) (ds : List D) (g g' : G2) (g1 : G1) (gl : GL) (fa fb fc : FE) (fr : FA) (ta tb : FT) (sa sb : FS) (gt : FG) (gs : FGs) (fi : FI)
theorem ev_V : fV i ρ M = vOf ρ[i]? M := by
  unfold fV vOf
  cases ρ[i]? with
  | none => rfl
  | some o => cases o <;> rfl
theorem vOf_e : vOf (some (some d)) M = some (d, M) := rfl
theorem ev_C : fC d ρ M = some (d, M) := rfl
theorem ev_O : fO g fa fb ρ M = ob (fa ρ M) (kO g fb ρ) := rfl
theorem kO_e : kO g fb ρ (d, M) = ob (fb ρ M) (kO2 g d) := rfl
theorem kO2_e : kO2 g d (e, M) = g d e M := rfl
theorem ev_U : fU g1 fa ρ M = ob (fa ρ M) (kU g1) := rfl
theorem kU_e : kU g1 (d, M) = g1 d M := rfl
theorem ev_Nil : fNil ρ M = some ([], M) := rfl
theorem ev_Cons : fCons fa fr ρ M = ob (fa ρ M) (kCons fr ρ) := rfl
theorem kCons_e : kCons fr ρ (d, M) = ob (fr ρ M) (kCons2 d) := rfl
theorem kCons2_e : kCons2 d (ds, M) = some (d :: ds, M) := rfl
theorem ev_L : fL gl fr ρ M = ob (fr ρ M) (kL gl) := rfl
theorem kL_e : kL gl (ds, M) = gl ds M := rfl
theorem ev_If : fIf ta fa fb ρ M = ob (ta ρ M) (kIf fa fb ρ) := rfl
theorem kIf_t : kIf fa fb ρ (true, M) = fa ρ M := rfl
theorem kIf_f : kIf fa fb ρ (false, M) = fb ρ M := rfl
theorem ev_tV : tV fa ρ M = ob (fa ρ M) kB := rfl
theorem kB_e : kB (.bl b, M) = some (b, M) := rfl
theorem ev_tTr : tTr fa ρ M = ob (fa ρ M) kTr := by
  unfold tTr ob kTr
  cases fa ρ M with
  | none => rfl
  | some p => simp only [Option.bind_some, ob, Option.map_eq_bind]; rfl
theorem kTr_e : kTr (d, M) = ob (gTru d M) (kTr2 M) := rfl
theorem kTr2_e : kTr2 M b = some (b, M) := rfl
theorem ev_tAn : tAn ta tb ρ M = ob (ta ρ M) (kAn tb ρ) := rfl
theorem kAn_t : kAn tb ρ (true, M) = tb ρ M := rfl
theorem kAn_f : kAn tb ρ (false, M) = some (false, M) := rfl
theorem ev_tOr : tOr2 ta tb ρ M = ob (ta ρ M) (kOr tb ρ) := rfl
theorem kOr_t : kOr tb ρ (true, M) = some (true, M) := rfl
theorem kOr_f : kOr tb ρ (false, M) = tb ρ M := rfl
theorem ev_tNo : tNo ta ρ M = ob (ta ρ M) kNo := rfl
theorem kNo_e : kNo (b, M) = some (!b, M) := rfl
theorem ev_NotB : fNotB fa ρ M = ob (fa ρ M) kNotB := rfl
theorem kNotB_e : kNotB (.bl b, M) = some (.bl (!b), M) := rfl
theorem ev_AnB : fAnB fa fb ρ M = ob (fa ρ M) (kAnB fb ρ) := rfl
theorem kAnB_t : kAnB fb ρ (.bl true, M) = fb ρ M := rfl
theorem kAnB_f : kAnB fb ρ (.bl false, M) = some (.bl false, M) := rfl
theorem ev_OrB : fOrB fa fb ρ M = ob (fa ρ M) (kOrB fb ρ) := rfl
theorem kOrB_t : kOrB fb ρ (.bl true, M) = some (.bl true, M) := rfl
theorem kOrB_f : kOrB fb ρ (.bl false, M) = fb ρ M := rfl
theorem ev_Tup : fTup fr ρ M = ob (fr ρ M) kTup := rfl
theorem kTup_e : kTup (ds, M) = if ds.length ≤ 100000 then some (.tup ds, M) else none := rfl
theorem ev_Lst : fLst fr ρ M = ob (fr ρ M) kLst := rfl
theorem kLst_e : kLst (ds, M) = if ds.length ≤ 100000 then some (.rf M.length, M ++ [.lst ds]) else none := rfl
theorem ev_CP (m : List D → Option D) : fCP m fr ρ M = ob (fr ρ M) (kCP m) := by
  unfold fCP ob kCP
  cases fr ρ M with
  | none => rfl
  | some p => simp only [Option.bind_some, ob, Option.map_eq_bind]; rfl
theorem kCP_e (m : List D → Option D) : kCP m (ds, M) = ob (m ds) (kD M) := rfl
theorem kD_e : kD M d = some (d, M) := rfl
theorem ev_ML (mg : D → GL) : fML mg fa fr ρ M = ob (fa ρ M) (kML mg fr ρ) := rfl
theorem kML_e (mg : D → GL) : kML mg fr ρ (d, M) = if isLst d M = true then ob (fr ρ M) (kML2 mg d) else none := rfl
theorem kML2_e (mg : D → GL) : kML2 mg d (ds, M) = mg d ds M := rfl
theorem ev_Sli (lo hi : Option FE) : fSli fa lo hi ρ M = ob (fa ρ M) (kS1 lo hi ρ) := rfl
theorem kS1_e (lo hi : Option FE) : kS1 lo hi ρ (d, M) = ob (oF lo ρ M) (kS2 hi ρ d) := rfl
theorem kS2_e (hi : Option FE) (o : Option Int) : kS2 hi ρ d (o, M) = ob (oF hi ρ M) (kS3 d o) := rfl
theorem kS3_e (o o' : Option Int) : kS3 d o (o', M) = gSl d o o' M := rfl
theorem ev_oN : oF none ρ M = some (none, M) := rfl
theorem ev_oS : oF (some fa) ρ M = ob (fa ρ M) kI := rfl
theorem kI_e (i : Int) : kI (.int i, M) = some (some i, M) := rfl
theorem ev_Ch : fCh g g' fa fb fc ρ M = ob (fa ρ M) (kCh1 g g' fb fc ρ) := rfl
theorem kCh1_e : kCh1 g g' fb fc ρ (d, M) = ob (fb ρ M) (kCh2 g g' fc ρ d) := rfl
theorem kCh2_e : kCh2 g g' fc ρ d (e, M) = ob (g d e M) (kCh3 g' fc ρ e) := rfl
theorem kCh3_t : kCh3 g' fc ρ e (.bl true, M) = ob (fc ρ M) (kO2 g' e) := rfl
theorem kCh3_f : kCh3 g' fc ρ e (.bl false, M) = some (.bl false, M) := rfl
theorem ev_gN : gN i d ρ = some (ρ.set i (some d)) := rfl
theorem ev_gsNil : gsNil [] ρ = some ρ := rfl
theorem ev_gsCons (r : List D) : gsCons gt gs (d :: r) ρ = ob (gt d ρ) (gs r) := rfl
theorem ev_gT : gT n gs (.tup ds) ρ = if ds.length = n then gs ds ρ else none := rfl
theorem then_nx : then_ sb (.nx ρ, M) = sb ρ M := nrfl rfl
theorem then_rt : then_ sb (.rt d, M) = some (.rt d, M) := nrfl rfl
theorem then_bk : then_ sb (.bk ρ, M) = some (.bk ρ, M) := nrfl rfl
theorem then_ct : then_ sb (.ct ρ, M) = some (.ct ρ, M) := nrfl rfl
theorem ev_Seq : sSeq sa sb ρ M = ob (sa ρ M) (then_ sb) := rfl
theorem ev_Asg : sAsg fa gt ρ M = ob (fa ρ M) (kAsg gt ρ) := by
  unfold sAsg ob kAsg
  cases fa ρ M with
  | none => rfl
  | some p => simp only [Option.bind_some, ob, Option.map_eq_bind]; rfl
theorem kAsg_e : kAsg gt ρ (d, M) = ob (gt d ρ) (kNx M) := rfl
theorem kNx_e : kNx M ρ = some (.nx ρ, M) := rfl
theorem par2_e : par2 i j ρ ([d, e], M) = some (.nx ((ρ.set i (some d)).set j (some e)), M) := rfl
theorem ev_Par : sPar i j fr ρ M = ob (fr ρ M) (par2 i j ρ) := rfl
theorem ev_Ret : sRet fa ρ M = ob (fa ρ M) kRet := by
  unfold sRet ob
  cases fa ρ M <;> rfl
theorem kRet_e : kRet (d, M) = some (.rt d, M) := rfl
theorem ev_Drop : sDrop fa ρ M = ob (fa ρ M) (kDrop ρ) := by
  unfold sDrop ob
  cases fa ρ M <;> rfl
theorem kDrop_e : kDrop ρ (d, M) = some (.nx ρ, M) := rfl
theorem ev_sIf : sIf ta sa sb ρ M = ob (ta ρ M) (kSif sa sb ρ) := rfl
theorem kSif_t : kSif sa sb ρ (true, M) = sa ρ M := rfl
theorem kSif_f : kSif sa sb ρ (false, M) = sb ρ M := rfl
theorem ev_Next : sNext ρ M = some (.nx ρ, M) := rfl
theorem ev_Brk : sBrk ρ M = some (.bk ρ, M) := rfl
theorem ev_Cont : sCont ρ M = some (.ct ρ, M) := rfl
theorem ev_RetN : sRetN ρ M = some (.rt .non, M) := rfl
theorem ev_Sub (fo fx : FE) : sSub fa fo fx ρ M = ob (fa ρ M) (kSub1 fo fx ρ) := by
  unfold sSub ob
  cases fa ρ M with
  | none => rfl
  | some p =>
    show ((fo ρ p.2).bind _) = ob (fo ρ p.2) _
    unfold ob
    cases fo ρ p.2 with
    | none => rfl
    | some q =>
      show ((fx ρ q.2).bind _) = ob (fx ρ q.2) _
      unfold ob
      cases fx ρ q.2 with
      | none => rfl
      | some r =>
        show (setAt _ _ _ _).map _ = ob (setAt _ _ _ _) _
        unfold ob
        rw [Option.map_eq_bind]
        rfl
theorem kSub1_e (fo fx : FE) : kSub1 fo fx ρ (d, M) = ob (fo ρ M) (kSub2 fx ρ d) := rfl
theorem kSub2_e (fx : FE) : kSub2 fx ρ d (e, M) = ob (fx ρ M) (kSub3 ρ d e) := rfl
theorem kSub3_e (o : D) : kSub3 ρ d o (e, M) = ob (setAt o e d M) (kNxM ρ) := rfl
theorem kNxM_e : kNxM ρ M = some (.nx ρ, M) := rfl
theorem ev_For : sFor fi gt sb ρ M = ob (fi ρ M) (kFor gt sb ρ) := rfl
variable (k : Rho → Mem → Option (Fl × Mem)) (gd : Mem → Prop) (body : D → Rho → Mem → Option (Fl × Mem))
theorem kFor_e : kFor gt sb ρ ((ds, gd), M) = runG gd (bodyG gt sb) ds ρ M := rfl
theorem turn_nx : turn k (.nx ρ, M) = k ρ M := nrfl rfl
theorem turn_ct : turn k (.ct ρ, M) = k ρ M := nrfl rfl
theorem turn_bk : turn k (.bk ρ, M) = some (.nx ρ, M) := nrfl rfl
theorem turn_rt : turn k (.rt d, M) = some (.rt d, M) := nrfl rfl
theorem runG_nil (h : gd M) : runG gd body [] ρ M = some (.nx ρ, M) := by
  unfold runG
  rw [if_pos h]
theorem runG_cons (h : gd M) : runG gd body (d :: ds) ρ M = ob (body d ρ M) (turn (runG gd body ds)) := by
  conv => lhs; unfold runG
  rw [if_pos h]
  rfl
theorem runT_nil : runG (fun _ => True) body [] ρ M = some (.nx ρ, M) := runG_nil _ _ _ _ trivial
theorem runT_cons : runG (fun _ => True) body (d :: ds) ρ M = ob (body d ρ M) (turn (runG (fun _ => True) body ds)) := runG_cons _ _ _ _ _ _ trivial
theorem ev_body : bodyG gt sb d ρ M = ob (gt d ρ) (kBody sb M) := rfl
theorem kBody_e : kBody sb M ρ = sb ρ M := rfl
theorem ev_iE : iE fa ρ M = ob (fa ρ M) kIE := by
  unfold iE ob kIE
  cases fa ρ M with
  | none => rfl
  | some p => simp only [Option.bind_some, ob, Option.map_eq_bind]; rfl
theorem kIE_e : kIE (d, M) = ob (itemsOf d M) (kSrc M) := rfl
theorem kSrc_e (s : Src) : kSrc M s = some (s, M) := rfl
theorem ev_iR1 : iR1 fa ρ M = ob (fa ρ M) kR1 := rfl
theorem kR1_e (j : Int) : kR1 (.int j, M) = if j ≤ 100000 ∧ -100000 ≤ j then some ((upto 0 j.toNat, fun _ => True), M) else none := rfl
theorem ev_iR2 : iR2 fa fb ρ M = ob (fa ρ M) (kR2 fb ρ) := rfl
theorem kR2_e : kR2 fb ρ (d, M) = ob (fb ρ M) (kR2b d) := rfl
theorem kR2b_e (i j : Int) : kR2b (.int i) (.int j, M) = if j ≤ 100000 ∧ -100000 ≤ i ∧ -100000 ≤ j ∧ i ≤ 100000 then some ((upto i (j - i).toNat, fun _ => True), M) else none := rfl
theorem ev_iZ : iZ fa fb ρ M = ob (fa ρ M) (kZ1 fb ρ) := by
  unfold iZ ob kZ1
  cases fa ρ M with
  | none => rfl
  | some p =>
    simp only [Option.bind_some, ob]
    cases fb ρ p.2 with
    | none => rfl
    | some q => simp only [Option.bind_some, ob, Option.map_eq_bind]; rfl
theorem kZ1_e : kZ1 fb ρ (d, M) = ob (fb ρ M) (kZ2 d) := rfl
theorem kZ2_e : kZ2 d (e, M) = ob (zipOf d e M) (kSrc M) := rfl
theorem ev_iEn : iEn fa ρ M = ob (fa ρ M) kEn := by
  unfold iEn ob kEn
  cases fa ρ M with
  | none => rfl
  | some p =>
    obtain ⟨d, M⟩ := p
    cases d with
    | rf j =>
      simp only [Option.bind_some, enOf, ob, kSrc]
      cases M[j]? with
      | none => rfl
      | some c => cases c <;> rfl
    | _ => rfl
theorem kEn_e : kEn (d, M) = ob (enOf d M) (kSrc M) := rfl
variable (tt : FT) (te : FE) (vs : List Nat) (it : D → Mem → Option (Option D × Mem))
theorem mapG_nil (h : gd M) : mapG gd it [] M = some ([], M) := by
  unfold mapG
  rw [if_pos h]
theorem mapG_cons (h : gd M) : mapG gd it (d :: ds) M = ob (it d M) (kMap gd it ds) := by
  conv => lhs; unfold mapG
  rw [if_pos h]
  rfl
theorem kMap_e (od : Option D) : kMap gd it ds (od, M) = ob (mapG gd it ds M) (kMap2 od) := rfl
theorem kMap2_e (od : Option D) : kMap2 od (ds, M) = some (od.toList ++ ds, M) := rfl
theorem mapT_nil : mapG (fun _ => True) it [] M = some ([], M) := mapG_nil _ _ _ trivial
theorem mapT_cons : mapG (fun _ => True) it (d :: ds) M = ob (it d M) (kMap (fun _ => True) it ds) := mapG_cons _ _ _ _ _ trivial
theorem ev_item : itemG gt tt te ρ d M = ob (gt d ρ) (kIt1 tt te M) := by
  unfold itemG ob kIt1
  cases gt d ρ with
  | none => rfl
  | some r =>
    simp only [Option.bind_some, ob]
    cases tt r M with
    | none => rfl
    | some p => simp only [Option.bind_some, ob, Option.map_eq_bind]; rfl
theorem kIt1_e : kIt1 tt te M ρ = ob (tt ρ M) (kIt2 te ρ) := rfl
theorem kIt2_t : kIt2 te ρ (true, M) = ob (te ρ M) kSome := rfl
theorem kIt2_f : kIt2 te ρ (false, M) = some (none, M) := rfl
theorem kSome_e : kSome (d, M) = some (some d, M) := rfl
theorem ev_Lc : fLc fi gt tt te vs ρ M = ob (fi ρ M) (kLc gt tt te vs ρ) := rfl
theorem kLc_e : kLc gt tt te vs ρ ((ds, gd), M) = ob (mapG gd (itemG gt tt te (wipeD ρ vs)) ds M) (kLc2 ds.length) := rfl
theorem kLc2_e : kLc2 n (ds, M) = if n ≤ 100000 then some (.rf M.length, M ++ [.lst ds]) else none := rfl
theorem ev_Yes : tYesD ρ M = some (true, M) := rfl
theorem finP_rt (h : D.lo 0 d = true) : finP (.rt d, M) = some d := by
  unfold finP D.imm
  dsimp only
  rw [if_pos h]
theorem finP_nx : finP (.nx ρ, M) = some .non := rfl
theorem mkP_e {n N : Nat} {b : FS} {ds : List D} {ρ : Rho} (h : D.los 0 ds = true) (hl : ds.length = n) (hs : startD N ds = ρ) : mkP n N b ds = ob (b ρ []) finP := by
  subst hs
  unfold mkP
  rw [if_pos ⟨h, hl⟩]
  rfl
theorem finM_rt : finM (.rt d, M) = some (d, M) := rfl
theorem finM_nx : finM (.nx ρ, M) = some (.non, M) := rfl
theorem mkM_e {n N : Nat} {b : FS} {ds : List D} {M : Mem} {ρ : Rho} (hl : ds.length = n) (hs : startD N ds = ρ) : mkM n N b ds M = ob (b ρ M) finM := by
  subst hs
  unfold mkM
  rw [if_pos hl]
  rfl
theorem mkG_e {n N : Nat} {b : FS} {ds : List D} {M : Mem} {ρ : Rho} (hl : ds.length = n) (hs : startD N ds = ρ) : mkG n N b ds M = ob (ob (b ρ M) finM) (kGc M.length) := by
  unfold mkG
  rw [mkM_e hl hs]
  unfold ob
  rw [Option.map_eq_bind]
  rfl
theorem kGc_e (p : D × Mem) : kGc n p = some (gc n p) := rfl
end
theorem mulE {i j : Int} (h : MulOk i j) (M : Mem) : gMul (.int i) (.int j) M = some (.int (i * j), M) := by
  simp only [gMul]
  rw [if_pos h]
theorem fdE {i j : Int} (h : j ≠ 0) (h' : Bt 9000 j) (M : Mem) : gFd (.int i) (.int j) M = some (.int (i.fdiv j), M) := by
  simp only [gFd]
  rw [if_pos ⟨h, h'⟩]
theorem modE {i j : Int} (h : j ≠ 0) (M : Mem) : gMod (.int i) (.int j) M = some (.int (i.fmod j), M) := by
  simp only [gMod]
  rw [if_pos h]
theorem addE (i j : Int) (M : Mem) : gAdd (.int i) (.int j) M = some (.int (i + j), M) := rfl
theorem subE (i j : Int) (M : Mem) : gSub (.int i) (.int j) M = some (.int (i - j), M) := rfl
theorem negE (i : Int) (M : Mem) : gNeg (.int i) M = some (.int (-i), M) := rfl
theorem cmpE (p : Int → Int → Bool) (i j : Int) (M : Mem) : gCmp p (.int i) (.int j) M = some (.bl (p i j), M) := rfl
theorem ixT (ds : List D) (i : Int) (M : Mem) : gIx (.tup ds) (.int i) M = ob (atI ds i) (kD M) := by
  simp only [gIx]
  unfold ob
  cases atI ds i <;> rfl
theorem truI (i : Int) (M : Mem) : gTru (.int i) M = some (i != 0) := rfl
theorem truB (b : Bool) (M : Mem) : gTru (.bl b) M = some b := rfl
theorem mul_bt {m n : Nat} {i j : Int} (hi : Bt m i) (hj : Bt n j) (h : m + n ≤ 134217728) : MulOk i j := ⟨m, n, hi, hj, h⟩
theorem at0 (a : D) (l : List D) : atI (a :: l) 0 = some a := by simp [atI, ixN]
theorem at1 (a b : D) (l : List D) : atI (a :: b :: l) 1 = some b := by simp [atI, ixN, show (1 : Int) < (l.length : Int) + 1 + 1 by omega]
theorem at2 (a b c : D) (l : List D) : atI (a :: b :: c :: l) 2 = some c := by simp [atI, ixN, show (2 : Int) < (l.length : Int) + 1 + 1 + 1 by omega]
theorem at3 (a b c d : D) (l : List D) : atI (a :: b :: c :: d :: l) 3 = some d := by simp [atI, ixN, show (3 : Int) < (l.length : Int) + 1 + 1 + 1 + 1 by omega]
theorem lenT (ds : List D) (M : Mem) : bLen [.tup ds] M = some (.int ds.length, M) := rfl
theorem powE {i j : Int} (h : 0 ≤ j ∧ j ≤ 1000000 ∧ i.natAbs < 2 ^ 64) (M : Mem) : gPow (.int i) (.int j) M = some (.int (i ^ j.toNat), M) := by
  simp only [gPow]
  rw [if_pos h]
theorem atI_of {α : Type} {l : List α} {i : Int} {j : Nat} {a : α} (h : i = (j : Int)) (e : l[j]? = some a) : atI l i = some a := by
  subst h
  have hj : j < l.length := (List.getElem?_eq_some_iff.mp e).1
  have : (j : Int) < (l.length : Int) := by omega
  simp only [atI, ixN]
  rw [if_pos (by omega), if_pos this]
  simpa using e
theorem gc_e {n : Nat} {v : D} {M G : Mem} (hn : M.length = n) (hv : v.lo n = true) (hM : M.all (Cell.lo n) = true) : gc n (v, M ++ G) = (v, M) := by
  unfold gc
  have : (M ++ G).take n = M := by rw [← hn]; simp
  dsimp only
  rw [this, if_pos ⟨hv, hM⟩]
/-! what has no place in the memory at all -/
mutual
theorem D.lo_le {m n : Nat} (h : m ≤ n) : ∀ {d : D}, D.lo m d = true → D.lo n d = true
  | .non, _ => rfl
  | .bl _, _ => rfl
  | .int _, _ => rfl
  | .str _, _ => rfl
  | .ty _, _ => rfl
  | .fn _, _ => rfl
  | .tup ds, e => D.los_le h (ds := ds) e
  | .rol ds, e => D.los_le h (ds := ds) e
  | .rf i, e => by
    simp only [D.lo, decide_eq_true_eq] at e ⊢
    omega
theorem D.los_le {m n : Nat} (h : m ≤ n) : ∀ {ds : List D}, D.los m ds = true → D.los n ds = true
  | [], _ => rfl
  | _ :: _, e => by
    simp only [D.los, Bool.and_eq_true] at e ⊢
    exact ⟨D.lo_le h e.1, D.los_le h e.2⟩
end
theorem Cell.lo_le {m n : Nat} (h : m ≤ n) : ∀ {c : Cell}, Cell.lo m c = true → Cell.lo n c = true
  | .lst _, e => D.los_le h e
  | .dK _, e => D.los_le h e
  | .ins _ _, e => D.los_le h e
theorem absE (i : Int) (M : Mem) : bAbs [.int i] M = some (.int (if i < 0 then -i else i), M) := rfl
/-! ### lists in the memory -/
def lstAt (M : Mem) (l : Nat) : Option (List D) := match M[l]? with
  | some (.lst ds) => some ds
  | _ => none
theorem lstAt_of {M : Mem} {l : Nat} {ds : List D} (h : M[l]? = some (.lst ds)) : lstAt M l = some ds := by
  unfold lstAt
  rw [h]
theorem lstAt_zero (ds : List D) (C : Mem) : lstAt (.lst ds :: C) 0 = some ds := rfl
theorem lstAt_succ (c : Cell) (C : Mem) (n : Nat) : lstAt (c :: C) (n + 1) = lstAt C n := rfl
section
variable (l : Nat) (i : Int) (M : Mem) (d : D)
theorem ixRf : gIx (.rf l) (.int i) M = ob (lstAt M l) fun ds => ob (atI ds i) fun d => some (d, M) := by
  simp only [gIx, lstAt, ob]
  cases M[l]? with
  | none => rfl
  | some c =>
    cases c with
    | lst ds => cases h : atI ds i <;> simp [h]
    | _ => rfl
theorem tupRf : bTuple [.rf l] M = ob (lstAt M l) fun ds => some (.tup ds, M) := by
  simp only [bTuple, seqOf, lstAt, ob]
  cases M[l]? with
  | none => rfl
  | some c => cases c <;> rfl
theorem lenRf : bLen [.rf l] M = ob (lstAt M l) fun ds => some (.int ds.length, M) := by
  simp only [bLen, seqOf, lstAt, ob]
  cases M[l]? with
  | none => rfl
  | some c => cases c <;> rfl
theorem listRf : bList [.rf l] M = ob (lstAt M l) fun ds => some (.rf M.length, M ++ [.lst ds]) := by
  simp only [bList, seqOf, lstAt, ob]
  cases M[l]? with
  | none => rfl
  | some c => cases c <;> rfl
theorem isLstRf : isLst (.rf l) M = (lstAt M l).isSome := by
  simp only [isLst, lstAt]
  cases M[l]? with
  | none => rfl
  | some c => cases c <;> rfl
theorem appRf : mApp (.rf l) [d] M = ob (lstAt M l) fun ds => if ds.length < 100000 then some (.non, M.set l (.lst (ds ++ [d]))) else none := by
  simp only [mApp, lstAt, ob]
  cases M[l]? with
  | none => rfl
  | some c => cases c <;> rfl
theorem revRf : mRev (.rf l) [] M = ob (lstAt M l) fun ds => some (.non, M.set l (.lst ds.reverse)) := by
  simp only [mRev, lstAt, ob]
  cases M[l]? with
  | none => rfl
  | some c => cases c <;> rfl
theorem setRf : setAt (.rf l) (.int i) d M = ob (lstAt M l) fun ds => ob (ixN ds.length i) fun j => some (M.set l (.lst (ds.set j d))) := by
  simp only [setAt, lstAt, ob]
  cases M[l]? with
  | none => rfl
  | some c =>
    cases c with
    | lst ds => cases h : ixN ds.length i <;> simp [h]
    | _ => rfl
theorem itemsRf : itemsOf (.rf l) M = ob (lstAt M l) fun ds => some (ds, fun M' => M'[l]? = some (.lst ds)) := by
  simp only [itemsOf, lstAt, ob]
  cases M[l]? with
  | none => rfl
  | some c => cases c <;> rfl
theorem itemsT (ds : List D) : itemsOf (.tup ds) M = some (ds, fun _ => True) := rfl
theorem itemsL (ds : List D) : itemsOf (.rol ds) M = some (ds, fun _ => True) := rfl
theorem zipT (ds es : List D) : zipOf (.tup ds) (.tup es) M = some (pairs ds es, fun _ => True) := rfl
theorem zipRf (j : Nat) : zipOf (.rf l) (.rf j) M = ob (lstAt M l) fun ds => ob (lstAt M j) fun es => some (pairs ds es, fun M' => M'[l]? = some (.lst ds) ∧ M'[j]? = some (.lst es)) := by
  simp only [zipOf, lstAt, ob]
  cases M[l]? with
  | none => rfl
  | some c =>
    cases c <;> cases M[j]? with
      | none => rfl
      | some c => cases c <;> rfl
theorem allRf : bAll [.rf l] M = ob (lstAt M l) fun ds => ob (D.bls ds) fun bs => some (.bl (bs.all id), M) := by
  simp only [bAll, lstOf, lstAt, ob]
  cases M[l]? with
  | none => rfl
  | some c =>
    cases c with
    | lst ds => cases h : D.bls ds <;> simp [h]
    | _ => rfl
theorem anyRf : bAny [.rf l] M = ob (lstAt M l) fun ds => ob (D.bls ds) fun bs => some (.bl (bs.any id), M) := by
  simp only [bAny, lstOf, lstAt, ob]
  cases M[l]? with
  | none => rfl
  | some c =>
    cases c with
    | lst ds => cases h : D.bls ds <;> simp [h]
    | _ => rfl
theorem sumRf : bSum [.rf l] M = ob (lstAt M l) fun ds => ob (D.ints ds) fun ns => some (.int ns.sum, M) := by
  simp only [bSum, lstOf, lstAt, ob]
  cases M[l]? with
  | none => rfl
  | some c =>
    cases c with
    | lst ds => cases h : D.ints ds <;> simp [h]
    | _ => rfl
theorem min1Rf : bMin1 [.rf l] M = ob (lstAt M l) fun ds => ob (D.ints ds) fun ns => if ns = [] then none else some (.int (minI ns), M) := by
  simp only [bMin1, lstOf, lstAt, ob] <;> (cases M[l]? with
  | none => rfl
  | some c => cases c <;> rfl)
theorem tupT (ds : List D) : bTuple [.tup ds] M = some (.tup ds, M) := rfl
theorem slRf (lo hi : Option Int) : gSl (.rf l) lo hi M = ob (lstAt M l) fun ds => some (.rf M.length, M ++ [.lst (cutD ds lo hi)]) := by
  simp only [gSl, lstAt, ob]
  cases M[l]? with
  | none => rfl
  | some c => cases c <;> rfl
theorem isiE (T : String) : bIsi [d, .ty T] M = ob (tyOf d M) fun t => ob (kitB t T) fun b => some (.bl b, M) := by
  simp only [bIsi, ob]
  cases tyOf d M with
  | none => rfl
  | some t => cases h : kitB t T <;> simp [h]
theorem t2E (T1 T2 : String) : gT2 T1 T2 d M = ob (tyOf d M) fun t => ob (kitB t T1) fun a => ob (kitB t T2) fun b => some (.bl (a || b), M) := by
  simp only [gT2, ob]
  cases tyOf d M with
  | none => rfl
  | some t =>
    simp only [Option.bind_some]
    cases kitB t T1 with
    | none => rfl
    | some a => cases h : kitB t T2 <;> simp [h]
end
/-! ### further statements and objects -/
def par3 (i j l : Nat) (ρ : Rho) (p : List D × Mem) : Option (Fl × Mem) := match p.1 with
  | [d, e, f] => some (.nx (((ρ.set i (some d)).set j (some e)).set l (some f)), p.2)
  | _ => none
def kAs2 (g : FG) (p : D × Mem) (ρ : Rho) : Option (Fl × Mem) := ob (g p.1 ρ) (kNx p.2)
def kAs3 (g1 g2 : FG) (ρ : Rho) (p : D × Mem) : Option (Fl × Mem) := ob (g1 p.1 ρ) (kAs2 g2 p)
def kAs4 (g3 g4 : FG) (p : D × Mem) (ρ : Rho) : Option (Fl × Mem) := ob (g3 p.1 ρ) (kAs2 g4 p)
def kAs5 (g2 g3 g4 : FG) (p : D × Mem) (ρ : Rho) : Option (Fl × Mem) := ob (g2 p.1 ρ) (kAs4 g3 g4 p)
def kAs6 (g1 g2 g3 g4 : FG) (ρ : Rho) (p : D × Mem) : Option (Fl × Mem) := ob (g1 p.1 ρ) (kAs5 g2 g3 g4 p)
def kCV (fa : FA) (ρ : Rho) (M : Mem) (m : List D → Option D) : Option (D × Mem) := fCP m fa ρ M
def kFld2 (cs : Nat → Bool) (f : Str) (ρ : Rho) (d : D) (p : D × Mem) : Option (Fl × Mem) := ob (setF cs f p.1 d p.2) (kNxM ρ)
def kFld1 (cs : Nat → Bool) (f : Str) (fo : FE) (ρ : Rho) (p : D × Mem) : Option (Fl × Mem) := ob (fo ρ p.2) (kFld2 cs f ρ p.1)
def kMk2 (n : Nat) (p : D × Mem) : Option (D × Mem) := match p.1 with
  | .non => some (.rf n, p.2)
  | _ => none
def kMk (c : Nat) (init : GL) (p : List D × Mem) : Option (D × Mem) := ob (init (.rf p.2.length :: p.1) (p.2 ++ [.ins c []])) (kMk2 p.2.length)
def kMt3 (o : D) (g : GL) (p : List D × Mem) : Option (D × Mem) := g (o :: p.1) p.2
def kMt2 (fa : FA) (ρ : Rho) (o : D × Mem) (g : GL) : Option (D × Mem) := ob (fa ρ o.2) (kMt3 o.1 g)
def kMt (tbl : Nat → Option GL) (m : Str) (fa : FA) (ρ : Rho) (o : D × Mem) : Option (D × Mem) := ob (metOf tbl m o.1 o.2) (kMt2 fa ρ o)
section
variable (ρ : Rho) (M : Mem) (i j l n c : Nat) (d e f o : D) (ds : List D) (fa fb : FE) (fr : FA) (g1 g2 g3 g4 : FG) (x : Str) (cs : Nat → Bool) (tbl : Nat → Option GL) (gl : GL)
theorem ev_Par3 : sPar3 i j l fr ρ M = ob (fr ρ M) (par3 i j l ρ) := rfl
theorem par3_e : par3 i j l ρ ([d, e, f], M) = some (.nx (((ρ.set i (some d)).set j (some e)).set l (some f)), M) := rfl
theorem ev_As2 : sAs2 fa g1 g2 ρ M = ob (fa ρ M) (kAs3 g1 g2 ρ) := by
  unfold sAs2 ob
  cases fa ρ M with
  | none => rfl
  | some p =>
    show ((g1 p.1 ρ).bind _) = ob (g1 p.1 ρ) _
    unfold ob
    cases g1 p.1 ρ with
    | none => rfl
    | some r =>
      show (g2 p.1 r).map _ = ob (g2 p.1 r) _
      unfold ob
      rw [Option.map_eq_bind]
      rfl
theorem ev_As4 : sAs4 fa g1 g2 g3 g4 ρ M = ob (fa ρ M) (kAs6 g1 g2 g3 g4 ρ) := by
  unfold sAs4 ob
  cases fa ρ M with
  | none => rfl
  | some p =>
    show ((g1 p.1 ρ).bind _) = ob (g1 p.1 ρ) _
    unfold ob
    cases g1 p.1 ρ with
    | none => rfl
    | some r =>
      show ((g2 p.1 r).bind _) = ob (g2 p.1 r) _
      unfold ob
      cases g2 p.1 r with
      | none => rfl
      | some r =>
        show ((g3 p.1 r).bind _) = ob (g3 p.1 r) _
        unfold ob
        cases g3 p.1 r with
        | none => rfl
        | some r =>
          show (g4 p.1 r).map _ = ob (g4 p.1 r) _
          unfold ob
          rw [Option.map_eq_bind]
          rfl
theorem kAs2_e : kAs2 g1 (d, M) ρ = ob (g1 d ρ) (kNx M) := rfl
theorem kAs3_e : kAs3 g1 g2 ρ (d, M) = ob (g1 d ρ) (kAs2 g2 (d, M)) := rfl
theorem kAs4_e : kAs4 g3 g4 (d, M) ρ = ob (g3 d ρ) (kAs2 g4 (d, M)) := rfl
theorem kAs5_e : kAs5 g2 g3 g4 (d, M) ρ = ob (g2 d ρ) (kAs4 g3 g4 (d, M)) := rfl
theorem kAs6_e : kAs6 g1 g2 g3 g4 ρ (d, M) = ob (g1 d ρ) (kAs5 g2 g3 g4 (d, M)) := rfl
theorem ev_CV (tb : Nat → Option (List D → Option D)) : fCV tb i fr ρ M = ob (fnOf2 tb i ρ) (kCV fr ρ M) := rfl
theorem kCV_e (m : List D → Option D) : kCV fr ρ M m = fCP m fr ρ M := rfl
def fnV (tb : Nat → Option (List D → Option D)) : Option (Option D) → Option (List D → Option D)
  | some (some (.fn n)) => tb n
  | _ => none
theorem fnOf2_e (tb : Nat → Option (List D → Option D)) : fnOf2 tb i ρ = fnV tb ρ[i]? := rfl
theorem fnV_e (tb : Nat → Option (List D → Option D)) : fnV tb (some (some (.fn n))) = tb n := rfl
theorem ev_Fld : sFldD cs x fa fb ρ M = ob (fa ρ M) (kFld1 cs x fb ρ) := by
  unfold sFldD ob
  cases fa ρ M with
  | none => rfl
  | some p =>
    show ((fb ρ p.2).bind _) = ob (fb ρ p.2) _
    unfold ob
    cases fb ρ p.2 with
    | none => rfl
    | some q =>
      show (setF _ _ _ _ _).map _ = ob (setF _ _ _ _ _) _
      unfold ob
      rw [Option.map_eq_bind]
      rfl
theorem kFld1_e : kFld1 cs x fb ρ (d, M) = ob (fb ρ M) (kFld2 cs x ρ d) := rfl
theorem kFld2_e : kFld2 cs x ρ d (e, M) = ob (setF cs x e d M) (kNxM ρ) := rfl
theorem ev_Mk : fMk c gl fr ρ M = ob (fr ρ M) (kMk c gl) := rfl
theorem kMk_e : kMk c gl (ds, M) = ob (gl (.rf M.length :: ds) (M ++ [.ins c []])) (kMk2 M.length) := rfl
theorem kMk2_e : kMk2 n (.non, M) = some (.rf n, M) := rfl
theorem ev_Mk0 : fMk0 c ρ M = some (.rf M.length, M ++ [.ins c []]) := rfl
theorem ev_Mt : fMt tbl x fa fr ρ M = ob (fa ρ M) (kMt tbl x fr ρ) := rfl
theorem kMt_e : kMt tbl x fr ρ (o, M) = ob (metOf tbl x o M) (kMt2 fr ρ (o, M)) := rfl
theorem kMt2_e : kMt2 fr ρ (o, M) gl = ob (fr ρ M) (kMt3 o gl) := rfl
theorem kMt3_e : kMt3 o gl (ds, M) = gl (o :: ds) M := rfl
theorem gFldE : gFld cs x (.rf i) M = ob (insAt M i) fun p => if cs p.1 = true then ob (p.2.lookup x) (kD M) else none := by
  simp only [gFld, ob]
  cases insAt M i with
  | none => rfl
  | some p =>
    simp only [Option.bind_some]
    cases h : p.2.lookup x <;> simp [kD]
theorem setFE : setF cs x (.rf i) d M = ob (insAt M i) fun p => if cs p.1 = true ∧ p.2.length < 500 then some (M.set i (.ins p.1 (putD x d p.2))) else none := rfl
theorem metE : metOf tbl x (.rf i) M = ob (insAt M i) fun p => if p.2.lookup x = none then tbl p.1 else none := rfl
theorem insAt_zero (fs : List (Str × D)) (C : Mem) : insAt (.ins c fs :: C) 0 = some (c, fs) := rfl
theorem insAt_succ (k : Cell) (C : Mem) : insAt (k :: C) (n + 1) = insAt C n := rfl
end

/-! ### further rules by which the mirror runs -/
noncomputable def kForM (g : FM) (b : FS) (ρ : Rho) (p : Src × Mem) : Option (Fl × Mem) := runG p.1.2 (bodyM g b) p.1.1 ρ p.2
def kAsgM (g : FM) (ρ : Rho) (p : D × Mem) : Option (Fl × Mem) := ob (g p.1 p.2 ρ) (kNx p.2)
section
variable (ρ : Rho) (M : Mem) (d : D) (ds : List D) (n j : Nat) (g : FM) (gs : FGs) (sb : FS) (fi : FI) (fa : FE) (gd : Mem → Prop)
theorem ev_ForM : sForM fi g sb ρ M = ob (fi ρ M) (kForM g sb ρ) := rfl
theorem kForM_e : kForM g sb ρ ((ds, gd), M) = runG gd (bodyM g sb) ds ρ M := rfl
theorem ev_bodyM : bodyM g sb d ρ M = ob (g d M ρ) (kBody sb M) := rfl
theorem ev_gTmT : gTm n gs (.tup ds) M ρ = if ds.length = n then gs ds ρ else none := rfl
theorem ev_gTmR : gTm n gs (.rf j) M ρ = ob (lstAt M j) fun ds => if ds.length = n then gs ds ρ else none := by
  simp only [gTm, lstAt, ob]
  cases M[j]? with
  | none => rfl
  | some c => cases c <;> rfl
theorem ev_AsgM : sAsgM fa g ρ M = ob (fa ρ M) (kAsgM g ρ) := by
  unfold sAsgM ob kAsgM
  cases fa ρ M with
  | none => rfl
  | some p => simp only [Option.bind_some, ob, Option.map_eq_bind]; rfl
theorem kAsgM_e : kAsgM g ρ (d, M) = ob (g d M ρ) (kNx M) := rfl
end
/-! ### what comes of it -/
def W {α : Type} (x : Option α) (Q : α → Prop) : Prop := ∃ y, x = some y ∧ Q y
theorem W.ret {α : Type} {y : α} {Q : α → Prop} (h : Q y) : W (some y) Q := ⟨y, rfl, h⟩
theorem W.cut {α β : Type} {x : Option α} {f : α → Option β} {Q : β → Prop} (R : α → Prop) (h : W x R) (k : ∀ y, R y → W (f y) Q) : W (ob x f) Q := by
  obtain ⟨y, e, r⟩ := h
  obtain ⟨z, e2, q⟩ := k y r
  exact ⟨z, by rw [e]; exact e2, q⟩
theorem W.mono {α : Type} {x : Option α} {P Q : α → Prop} (h : W x P) (k : ∀ y, P y → Q y) : W x Q := by
  obtain ⟨y, e, r⟩ := h
  exact ⟨y, e, k y r⟩
theorem W.eq {α : Type} {x : Option α} {y : α} {Q : α → Prop} (e : x = some y) (h : Q y) : W x Q := ⟨y, e, h⟩
/- a loop by what holds between two turns, with a count -/
theorem W.run {gd : Mem → Prop} {body : D → Rho → Mem → Option (Fl × Mem)} {Q : Fl × Mem → Prop} {f : Fl × Mem → Option (Fl × Mem)} (I : Nat → Rho → Mem → Prop) {ds : List D} {ρ : Rho} {M : Mem} (h0 : I 0 ρ M) (hg : ∀ i ρ M, I i ρ M → gd M)
    (step : ∀ (j : Nat) (d : D), ds[j]? = some d → ∀ ρ M, I j ρ M → W (body d ρ M) fun y => ∃ ρ' M', y = (.nx ρ', M') ∧ I (j + 1) ρ' M') (k : ∀ ρ' M', I ds.length ρ' M' → W (f (.nx ρ', M')) Q) : W (ob (runG gd body ds ρ M) f) Q := by
  have key : ∀ (l : List D) (n : Nat) (ρ : Rho) (M : Mem), (∀ (j : Nat) (d : D), l[j]? = some d → ds[n + j]? = some d) → I n ρ M → ∃ ρ' M', runG gd body l ρ M = some (.nx ρ', M') ∧ I (n + l.length) ρ' M' := by
    intro l
    induction l with
    | nil => exact fun n ρ M _ i => ⟨ρ, M, runG_nil _ _ _ _ (hg n ρ M i), i⟩
    | cons d l ih =>
      intro n ρ M hl i
      obtain ⟨y, e, ρ1, M1, rfl, i1⟩ := step n d (hl 0 d rfl) ρ M i
      obtain ⟨ρ2, M2, e2, i2⟩ := ih (n + 1) ρ1 M1 (fun j d' hd => by
        have := hl (j + 1) d' (by simpa using hd)
        rw [show n + (j + 1) = n + 1 + j by omega] at this
        exact this) i1
      exact ⟨ρ2, M2, by rw [runG_cons _ _ _ _ _ _ (hg n ρ M i), e]; exact e2, by rw [List.length_cons, show n + (l.length + 1) = n + 1 + l.length by omega]; exact i2⟩
  obtain ⟨ρ', M', e, i⟩ := key ds 0 ρ M (fun j d hd => by simpa using hd) h0
  rw [Nat.zero_add] at i
  obtain ⟨z, e2, q⟩ := k ρ' M' i
  exact ⟨z, by rw [e]; exact e2, q⟩
/- a list that stands behind the deck's own part -/
def Live (n : Nat) (rest : Mem) (r : Nat) (P : List D) : Prop := ∃ i, r = n + i ∧ rest[i]? = some (.lst P)
theorem Live.app {n r : Nat} {rest : Mem} {P : List D} (h : Live n rest r P) (C : Mem) : Live n (rest ++ C) r P := by
  obtain ⟨i, e, q⟩ := h
  exact ⟨i, e, by rw [List.getElem?_append_left (List.getElem?_eq_some_iff.mp q).1]; exact q⟩
theorem Live.get {n r : Nat} {rest A : Mem} {P : List D} (h : Live n rest r P) (hA : A.length = n) : (A ++ rest)[r]? = some (.lst P) := by
  obtain ⟨i, rfl, q⟩ := h
  rw [List.getElem?_append_right (by omega), ← hA, Nat.add_sub_cancel_left]
  exact q
theorem Live.at {n r : Nat} {rest A : Mem} {P : List D} (h : Live n rest r P) (hA : A.length = n) : lstAt (A ++ rest) r = some P := lstAt_of (h.get hA)
theorem Live.new {n : Nat} {rest : Mem} {P : List D} (C : Mem) : Live n (rest ++ .lst P :: C) (n + rest.length) P := ⟨rest.length, rfl, by simp⟩
theorem Live.lt {n r : Nat} {rest : Mem} {P : List D} (h : Live n rest r P) : r < n + rest.length := by
  obtain ⟨i, rfl, q⟩ := h
  have := (List.getElem?_eq_some_iff.mp q).1
  omega
/- it is written -/
theorem Live.set {n r : Nat} {rest A : Mem} {P P' : List D} (h : Live n rest r P) (hA : A.length = n) : ∃ rest', (A ++ rest).set r (.lst P') = A ++ rest' ∧ Live n rest' r P' ∧ ∀ q, (Cell.lst P').lo q = true → rest.all (Cell.lo q) = true → rest'.all (Cell.lo q) = true := by
  obtain ⟨i, rfl, q⟩ := h
  have hi := (List.getElem?_eq_some_iff.mp q).1
  refine ⟨rest.set i (.lst P'), ?_, ⟨i, rfl, List.getElem?_set_self hi⟩, fun m hm ha => ?_⟩
  · rw [List.set_append_right _ _ (by omega), ← hA, Nat.add_sub_cancel_left]
  · rw [List.all_eq_true] at ha ⊢
    intro c hc
    rcases List.mem_or_eq_of_mem_set hc with hc | rfl
    · exact ha c hc
    · exact hm
theorem atB {A rest : Mem} {n : Nat} (h : A.length = n) (X : Mem) (i : Nat) : lstAt (A ++ (rest ++ X)) (n + (rest.length + i)) = lstAt X i := by
  unfold lstAt
  rw [← List.append_assoc, List.getElem?_append_right (by rw [List.length_append]; omega), List.length_append, show n + (rest.length + i) - (A.length + rest.length) = i by omega]
theorem atB0 {A rest : Mem} {n : Nat} (h : A.length = n) (X : Mem) : lstAt (A ++ (rest ++ X)) (n + rest.length) = lstAt X 0 := atB h X 0
theorem setB {A rest : Mem} {n : Nat} (h : A.length = n) (X : Mem) (i : Nat) (c : Cell) : (A ++ (rest ++ X)).set (n + (rest.length + i)) c = A ++ (rest ++ X.set i c) := by
  rw [List.set_append_right _ _ (by omega), List.set_append_right _ _ (by omega), show n + (rest.length + i) - A.length - rest.length = i by omega]
theorem setB0 {A rest : Mem} {n : Nat} (h : A.length = n) (X : Mem) (c : Cell) : (A ++ (rest ++ X)).set (n + rest.length) c = A ++ (rest ++ X.set 0 c) := setB h X 0 c
theorem getB {A rest : Mem} {n : Nat} (h : A.length = n) (X : Mem) (i : Nat) : (A ++ (rest ++ X))[n + (rest.length + i)]? = X[i]? := by
  rw [← List.append_assoc, List.getElem?_append_right (by rw [List.length_append]; omega), List.length_append, show n + (rest.length + i) - (A.length + rest.length) = i by omega]
theorem getB0 {A rest : Mem} {n : Nat} (h : A.length = n) (X : Mem) : (A ++ (rest ++ X))[n + rest.length]? = X[0]? := getB h X 0
/- lists walked, by what the memory has there -/
theorem mapC_cons {l : Nat} {xs : List D} {M : Mem} (it : D → Mem → Option (Option D × Mem)) (d : D) (ds : List D) (h : M[l]? = some (.lst xs)) : mapG (fun M' => M'[l]? = some (.lst xs)) it (d :: ds) M = ob (it d M) (kMap (fun M' => M'[l]? = some (.lst xs)) it ds) := mapG_cons (h := h) ..
theorem mapC_nil {l : Nat} {xs : List D} {M : Mem} (it : D → Mem → Option (Option D × Mem)) (h : M[l]? = some (.lst xs)) : mapG (fun M' => M'[l]? = some (.lst xs)) it [] M = some ([], M) := mapG_nil (h := h) ..
theorem runC_cons {l : Nat} {xs : List D} {M : Mem} (body : D → Rho → Mem → Option (Fl × Mem)) (d : D) (ds : List D) (ρ : Rho) (h : M[l]? = some (.lst xs)) : runG (fun M' => M'[l]? = some (.lst xs)) body (d :: ds) ρ M = ob (body d ρ M) (turn (runG (fun M' => M'[l]? = some (.lst xs)) body ds)) := runG_cons (h := h) ..
theorem runC_nil {l : Nat} {xs : List D} {M : Mem} (body : D → Rho → Mem → Option (Fl × Mem)) (ρ : Rho) (h : M[l]? = some (.lst xs)) : runG (fun M' => M'[l]? = some (.lst xs)) body [] ρ M = some (.nx ρ, M) := runG_nil (h := h) ..

/-! ### rules of what s8 brings -/
def kSt3 (ds : List D) (p : List D × Mem) : Option (List D × Mem) := some (ds ++ p.1, p.2)
def kSt2 (fr : FA) (ρ : Rho) (M : Mem) (ds : List D) : Option (List D × Mem) := ob (fr ρ M) (kSt3 ds)
def kSt1 (fr : FA) (ρ : Rho) (p : D × Mem) : Option (List D × Mem) := ob (seqOf p.1 p.2) (kSt2 fr ρ p.2)
def kDc (tab : List (Str × Int)) (p : D × Mem) : Option (D × Mem) := match p.1 with
  | .str z => (tab.lookup z).map fun i => (.int i, p.2)
  | _ => none
def kRr (p : D × Mem) : Option (Src × Mem) := match p.1 with
  | .int j => if j ≤ 100000 ∧ -100000 ≤ j then some ((downto j.toNat, fun _ => True), p.2) else none
  | _ => none
def kRv (p : D × Mem) : Option (Src × Mem) := ob (revOf p.1 p.2) (kSrc p.2)
section
variable (ρ : Rho) (M : Mem) (d x y : D) (ds es : List D) (l : Nat) (i : Int) (fe fk : FE) (fr : FA) (tab : List (Str × Int)) (z : Str)
theorem ev_Star : fStar fe fr ρ M = ob (fe ρ M) (kSt1 fr ρ) := rfl
theorem kSt1_e : kSt1 fr ρ (d, M) = ob (seqOf d M) (kSt2 fr ρ M) := rfl
theorem kSt2_e : kSt2 fr ρ M ds = ob (fr ρ M) (kSt3 ds) := rfl
theorem kSt3_e : kSt3 ds (es, M) = some (ds ++ es, M) := rfl
theorem seqT : seqOf (.tup ds) M = some ds := rfl
theorem seqRf : seqOf (.rf l) M = lstAt M l := by
  cases h : M[l]? with
  | none => simp [seqOf, lstAt, h]
  | some c => cases c <;> simp [seqOf, lstAt, h]
theorem popRf : mPop (.rf l) [] M = ob (lstAt M l) fun ds => ob ds[ds.length - 1]? fun d => some (d, M.set l (.lst ds.dropLast)) := by
  simp only [mPop, lstAt, ob]
  cases M[l]? with
  | none => rfl
  | some c =>
    cases c with
    | lst ds => cases h : ds[ds.length - 1]? <;> simp [h]
    | _ => rfl
theorem insRf : mIns (.rf l) [.int i, d] M = ob (lstAt M l) fun ds => if ds.length < 100000 ∧ 0 ≤ i ∧ i < 100000 then some (.non, M.set l (.lst (ds.take i.toNat ++ [d] ++ ds.drop i.toNat))) else none := by
  simp only [mIns, lstAt, ob]
  cases M[l]? with
  | none => rfl
  | some c => cases c <;> rfl
theorem inE : gIn x y M = ob (seqOf y M) fun ds => if x.flat = true ∧ ds.all D.flat = true then some (.bl (ds.any fun y => y.eqFl x), M) else none := rfl
theorem notInE : gNotIn x y M = ob (seqOf y M) fun ds => if x.flat = true ∧ ds.all D.flat = true then some (.bl (!ds.any fun y => y.eqFl x), M) else none := rfl
theorem ev_Dc : fDc tab fk ρ M = ob (fk ρ M) (kDc tab) := rfl
theorem kDc_e : kDc tab (.str z, M) = ob (tab.lookup z) fun i => some (.int i, M) := by
  simp only [kDc, ob, Option.map_eq_bind]
  rfl
theorem ev_iRv : iRv fe ρ M = ob (fe ρ M) kRv := by
  unfold iRv ob kRv
  cases fe ρ M with
  | none => rfl
  | some p => simp only [Option.bind_some, ob, Option.map_eq_bind]; rfl
theorem ev_iRr : iRr fe ρ M = ob (fe ρ M) kRr := rfl
theorem kRr_e (j : Int) : kRr (.int j, M) = if j ≤ 100000 ∧ -100000 ≤ j then some ((downto j.toNat, fun _ => True), M) else none := rfl
theorem kRv_e : kRv (d, M) = ob (revOf d M) (kSrc M) := rfl
theorem revT : revOf (.tup ds) M = some (ds.reverse, fun _ => True) := rfl
theorem revL : revOf (.rf l) M = ob (lstAt M l) fun ds => some (ds.reverse, fun M' => M'[l]? = some (.lst ds)) := by
  simp only [revOf, lstAt, ob]
  cases M[l]? with
  | none => rfl
  | some c => cases c <;> rfl
end
/-! ### rules of z34 -/
def kZc (a b : D) (p : D × Mem) : Option (Src × Mem) := ob (zipOf3 a b p.1) fun l => some ((l, fun _ => True), p.2)
def kZb (fc : FE) (ρ : Rho) (a : D) (p : D × Mem) : Option (Src × Mem) := ob (fc ρ p.2) (kZc a p.1)
def kZa (fb fc : FE) (ρ : Rho) (p : D × Mem) : Option (Src × Mem) := ob (fb ρ p.2) (kZb fc ρ p.1)
def kZe (a b c : D) (p : D × Mem) : Option (Src × Mem) := ob (zipOf4 a b c p.1) fun l => some ((l, fun _ => True), p.2)
def kZd (fd : FE) (ρ : Rho) (a b : D) (p : D × Mem) : Option (Src × Mem) := ob (fd ρ p.2) (kZe a b p.1)
def kZb4 (fc fd : FE) (ρ : Rho) (a : D) (p : D × Mem) : Option (Src × Mem) := ob (fc ρ p.2) (kZd fd ρ a p.1)
def kZa4 (fb fc fd : FE) (ρ : Rho) (p : D × Mem) : Option (Src × Mem) := ob (fb ρ p.2) (kZb4 fc fd ρ p.1)
section
variable (ρ : Rho) (M : Mem) (a b c d : D) (fa fb fc fd : FE) (as bs cs ds : List D)
theorem ev_iZ3 : iZ3 fa fb fc ρ M = ob (fa ρ M) (kZa fb fc ρ) := by
  unfold iZ3 ob kZa kZb kZc
  cases fa ρ M with
  | none => rfl
  | some p => simp only [Option.bind_some, ob, Option.map_eq_bind]; rfl
theorem ev_iZ4 : iZ4 fa fb fc fd ρ M = ob (fa ρ M) (kZa4 fb fc fd ρ) := by
  unfold iZ4 ob kZa4 kZb4 kZd kZe
  cases fa ρ M with
  | none => rfl
  | some p => simp only [Option.bind_some, ob, Option.map_eq_bind]; rfl
theorem kZa_e : kZa fb fc ρ (a, M) = ob (fb ρ M) (kZb fc ρ a) := rfl
theorem kZb_e : kZb fc ρ a (b, M) = ob (fc ρ M) (kZc a b) := rfl
theorem kZc_e : kZc a b (c, M) = ob (zipOf3 a b c) fun l => some ((l, fun _ => True), M) := rfl
theorem kZa4_e : kZa4 fb fc fd ρ (a, M) = ob (fb ρ M) (kZb4 fc fd ρ a) := rfl
theorem kZb4_e : kZb4 fc fd ρ a (b, M) = ob (fc ρ M) (kZd fd ρ a b) := rfl
theorem kZd_e : kZd fd ρ a b (c, M) = ob (fd ρ M) (kZe a b c) := rfl
theorem kZe_e : kZe a b c (d, M) = ob (zipOf4 a b c d) fun l => some ((l, fun _ => True), M) := rfl
theorem zip3T : zipOf3 (.tup as) (.tup bs) (.tup cs) = some (trips as bs cs) := rfl
theorem zip4T : zipOf4 (.tup as) (.tup bs) (.tup cs) (.tup ds) = some (quads as bs cs ds) := rfl
end
/-! ### rules of lrg -/
noncomputable def kLRb (d : D) (q : D × Mem) : Option (D × Mem) := match d, q.1 with
  | .int i, .int j => if j ≤ 100000 ∧ -100000 ≤ i ∧ -100000 ≤ j ∧ i ≤ 100000 then some (.rf q.2.length, q.2 ++ [.lst (upto i (j - i).toNat)]) else none
  | _, _ => none
noncomputable def kLRa (fb : FE) (ρ : Rho) (p : D × Mem) : Option (D × Mem) := ob (fb ρ p.2) (kLRb p.1)
section
variable (ρ : Rho) (M : Mem) (d : D) (fa fb : FE) (i j : Int)
theorem ev_LR2 : fLR2 fa fb ρ M = ob (fa ρ M) (kLRa fb ρ) := by
  unfold fLR2 ob kLRa kLRb
  rfl
theorem kLRa_e : kLRa fb ρ (d, M) = ob (fb ρ M) (kLRb d) := rfl
theorem kLRb_e : kLRb (.int i) (.int j, M) = if j ≤ 100000 ∧ -100000 ≤ i ∧ -100000 ≤ j ∧ i ≤ 100000 then some (.rf M.length, M ++ [.lst (upto i (j - i).toNat)]) else none := rfl
end
/-! ### rules of rem -/

noncomputable def b_frac : FS :=
  (sSeq (sPar 2 3 (fCons (fV 1) (fCons (fO gMod (fV 0) (fV 1)) fNil)))
    (sSeq (sWhile (tTr (fV 3)) (sPar 2 3 (fCons (fV 3) (fCons (fO gMod (fV 2) (fV 3)) fNil))))
    (sRet (fTup (fCons (fO gFd (fV 0) (fV 2)) (fCons (fO gFd (fV 1) (fV 2)) fNil))))))
noncomputable def m_frac : List D → Option D := mkP 2 4 b_frac
theorem lo_frac (ds : List D) (d : D) : m_frac ds = some d → D.los 0 ds = true ∧ ds.length = 2 := mkP_lo
theorem e_frac (d0 d1 : D) (h : D.los 0 [d0, d1] = true) : m_frac [d0, d1] = ob (b_frac [some d0, some d1, none, none] []) finP := mkP_e h rfl rfl
noncomputable def b_minus : FS :=
  (sRet (fCP m_frac (fCons (fO gSub (fO gMul (fO gIx (fV 0) (fC (.int 0))) (fO gIx (fV 1) (fC (.int 1)))) (fO gMul (fO gIx (fV 1) (fC (.int 0))) (fO gIx (fV 0) (fC (.int 1))))) (fCons (fO gMul (fO gIx (fV 0) (fC (.int 1))) (fO gIx (fV 1) (fC (.int 1)))) fNil))))
noncomputable def m_minus : List D → Option D := mkP 2 2 b_minus
theorem lo_minus (ds : List D) (d : D) : m_minus ds = some d → D.los 0 ds = true ∧ ds.length = 2 := mkP_lo
theorem e_minus (d0 d1 : D) (h : D.los 0 [d0, d1] = true) : m_minus [d0, d1] = ob (b_minus [some d0, some d1] []) finP := mkP_e h rfl rfl
noncomputable def b_over : FS :=
  (sRet (fCP m_frac (fCons (fO gMul (fO gIx (fV 0) (fC (.int 0))) (fO gIx (fV 1) (fC (.int 1)))) (fCons (fO gMul (fO gIx (fV 0) (fC (.int 1))) (fO gIx (fV 1) (fC (.int 0)))) fNil))))
noncomputable def m_over : List D → Option D := mkP 2 2 b_over
theorem lo_over (ds : List D) (d : D) : m_over ds = some d → D.los 0 ds = true ∧ ds.length = 2 := mkP_lo
theorem e_over (d0 d1 : D) (h : D.los 0 [d0, d1] = true) : m_over [d0, d1] = ob (b_over [some d0, some d1] []) finP := mkP_e h rfl rfl
noncomputable def b_sign : FS :=
  (sSeq (sIf (tV (fO gLt (fO gIx (fV 0) (fC (.int 0))) (fC (.int 0)))) (sRet (fU gNeg (fC (.int 1)))) sNext)
    (sSeq (sIf (tV (fO gGt (fO gIx (fV 0) (fC (.int 0))) (fC (.int 0)))) (sRet (fC (.int 1))) sNext)
    (sRet (fC (.int 0)))))
noncomputable def m_sign : List D → Option D := mkP 1 1 b_sign
theorem lo_sign (ds : List D) (d : D) : m_sign ds = some d → D.los 0 ds = true ∧ ds.length = 1 := mkP_lo
theorem e_sign (d0 : D) (h : D.los 0 [d0] = true) : m_sign [d0] = ob (b_sign [some d0] []) finP := mkP_e h rfl rfl
noncomputable def b_utmost : FS :=
  (sSeq (sAsg (fO gIx (fV 0) (fC (.int 0))) (gN 2))
    (sSeq (sFor (iE (fV 0)) (gN 3) (sIf (tV (fO gEq (fCP m_sign (fCons (fCP m_minus (fCons (fV 3) (fCons (fV 2) fNil))) fNil)) (fV 1))) (sAsg (fV 3) (gN 2)) sNext))
    (sRet (fV 2))))
noncomputable def m_utmost : GL := mkM 2 4 b_utmost
theorem ln_utmost (ds : List D) (M : Mem) (d : D × Mem) : m_utmost ds M = some d → ds.length = 2 := mkM_len
theorem e_utmost (d0 d1 : D) (M : Mem) : m_utmost [d0, d1] M = ob (b_utmost [some d0, some d1, none, none] M) finM := mkM_e rfl rfl
noncomputable def b_side_moments : FS :=
  (sSeq (sPar 4 5 (fCons (fCP m_over (fCons (fCP m_minus (fCons (fV 0) (fCons (fV 2) fNil))) (fCons (fV 3) fNil))) (fCons (fCP m_over (fCons (fCP m_minus (fCons (fV 1) (fCons (fV 2) fNil))) (fCons (fV 3) fNil))) fNil)))
    (sRet (fIf (tV (fO gGt (fCP m_sign (fCons (fV 3) fNil)) (fC (.int 0)))) (fTup (fCons (fV 4) (fCons (fV 5) fNil))) (fTup (fCons (fV 5) (fCons (fV 4) fNil))))))
noncomputable def m_side_moments : List D → Option D := mkP 4 6 b_side_moments
theorem lo_side_moments (ds : List D) (d : D) : m_side_moments ds = some d → D.los 0 ds = true ∧ ds.length = 4 := mkP_lo
theorem e_side_moments (d0 d1 d2 d3 : D) (h : D.los 0 [d0, d1, d2, d3] = true) : m_side_moments [d0, d1, d2, d3] = ob (b_side_moments [some d0, some d1, some d2, some d3, none, none] []) finP := mkP_e h rfl rfl
noncomputable def b_box_stretch : FS :=
  (sSeq (sIf (tV (fO gEq (fV 0) (fTup fNil))) (sRet (fC .non)) sNext)
    (sSeq (sPar 2 3 (fCons (fC (.tup [(.int 0), (.int 1)])) (fCons (fLst fNil) fNil)))
    (sSeq (sFor (iZ4 (fO gIx (fV 0) (fC (.int 0))) (fO gIx (fV 0) (fC (.int 1))) (fO gIx (fV 1) (fC (.int 0))) (fO gIx (fV 1) (fC (.int 1)))) (gT 4 (gsCons (gN 4) (gsCons (gN 5) (gsCons (gN 6) (gsCons (gN 7) gsNil))))) (sSeq (sIf (tV (fO gEq (fCP m_sign (fCons (fV 7) fNil)) (fC (.int 0)))) (sSeq (sIf (tOr2 (tV (fO gLt (fCP m_sign (fCons (fCP m_minus (fCons (fV 6) (fCons (fV 4) fNil))) fNil)) (fC (.int 0)))) (tV (fO gLt (fCP m_sign (fCons (fCP m_minus (fCons (fV 5) (fCons (fV 6) fNil))) fNil)) (fC (.int 0))))) (sRet (fC .non)) sNext)
    sCont) sNext)
    (sSeq (sAsg (fCP m_side_moments (fCons (fV 4) (fCons (fV 5) (fCons (fV 6) (fCons (fV 7) fNil))))) (gT 2 (gsCons (gN 8) (gsCons (gN 9) gsNil))))
    (sSeq (sAsg (fL m_utmost (fCons (fLst (fCons (fV 2) (fCons (fV 8) fNil))) (fCons (fC (.int 1)) fNil))) (gN 2))
    (sDrop (fML mApp (fV 3) (fCons (fV 9) fNil)))))))
    (sSeq (sAsg (fL m_utmost (fCons (fV 3) (fCons (fU gNeg (fC (.int 1))) fNil))) (gN 10))
    (sRet (fIf (tV (fO gLt (fCP m_sign (fCons (fCP m_minus (fCons (fV 10) (fCons (fV 2) fNil))) fNil)) (fC (.int 0)))) (fC .non) (fTup (fCons (fV 2) (fCons (fV 10) fNil)))))))))
noncomputable def m_box_stretch : List D → Option D := mkP 2 11 b_box_stretch
theorem lo_box_stretch (ds : List D) (d : D) : m_box_stretch ds = some d → D.los 0 ds = true ∧ ds.length = 2 := mkP_lo
theorem e_box_stretch (d0 d1 : D) (h : D.los 0 [d0, d1] = true) : m_box_stretch [d0, d1] = ob (b_box_stretch [some d0, some d1, none, none, none, none, none, none, none, none, none] []) finP := mkP_e h rfl rfl
noncomputable def b__law_deck : FS :=
  (sSeq (sAsg (fO gAdd (fLc (iE (fV 0)) (gN 2) tYesD (fL bAbs (fCons (fV 2) fNil)) [2]) (fO gMul (fLst (fCons (fC (.int 3)) fNil)) (fL bInt (fCons (fO gEq (fL bLen (fCons (fV 0) fNil)) (fC (.int 0))) fNil)))) (gN 1))
    (sRet (fLst (fCons (fV 1) (fCons (fLc (iE (fV 1)) (gN 2) (tV (fO gGe (fV 2) (fO gPow (fC (.int 10)) (fC (.int 18))))) (fV 2) [2]) (fCons (fC (.int 0)) (fCons (fC (.int 0)) fNil)))))))
noncomputable def m__law_deck : GL := mkM 1 3 b__law_deck
theorem ln__law_deck (ds : List D) (M : Mem) (d : D × Mem) : m__law_deck ds M = some d → ds.length = 1 := mkM_len
theorem e__law_deck (d0 : D) (M : Mem) : m__law_deck [d0] M = ob (b__law_deck [some d0, none, none] M) finM := mkM_e rfl rfl
noncomputable def b__law_take : FS :=
  (sSeq (sWhile (tV (fO gLt (fO gIx (fV 0) (fC (.int 2))) (fL bLen (fCons (fO gIx (fV 0) (fC (.int 1))) fNil)))) (sSeq (sAsg (fO gIx (fO gIx (fV 0) (fC (.int 1))) (fO gIx (fV 0) (fC (.int 2)))) (gN 2))
    (sSeq (sIf (tV (fO gGt (fV 2) (fC (.int 0)))) (sSeq (sSub (fO gFd (fV 2) (fV 1)) (fO gIx (fV 0) (fC (.int 1))) (fO gIx (fV 0) (fC (.int 2))))
    (sRet (fO gMod (fV 2) (fV 1)))) sNext)
    (sSub (fO gAdd (fO gIx (fV 0) (fC (.int 2))) (fC (.int 1))) (fV 0) (fC (.int 2))))))
    (sSeq (sSub (fO gAdd (fO gIx (fV 0) (fC (.int 3))) (fC (.int 1))) (fV 0) (fC (.int 3)))
    (sSeq (sAsg (fO gAdd (fO gMod (fO gIx (fO gIx (fV 0) (fC (.int 0))) (fO gMod (fO gIx (fV 0) (fC (.int 3))) (fL bLen (fCons (fO gIx (fV 0) (fC (.int 0))) fNil)))) (fC (.int 1000003))) (fC (.int 5))) (gN 2))
    (sRet (fO gMod (fO gFd (fO gMod (fO gPow (fO gAdd (fO gMul (fV 2) (fO gAdd (fO gIx (fV 0) (fC (.int 3))) (fC (.int 2)))) (fO gMul (fC (.int 7919)) (fO gIx (fV 0) (fC (.int 3))))) (fC (.int 5))) (fC (.int 2147483647))) (fC (.int 13))) (fV 1))))))
noncomputable def m__law_take : GL := mkG 2 3 b__law_take
theorem ln__law_take (ds : List D) (M : Mem) (d : D × Mem) : m__law_take ds M = some d → ds.length = 2 := mkG_len
theorem e__law_take (d0 d1 : D) (M : Mem) : m__law_take [d0, d1] M = ob (ob (b__law_take [some d0, some d1, none] M) finM) (kGc M.length) := mkG_e rfl rfl
noncomputable def b__law_gcd : FS :=
  (sSeq (sWhile (tV (fO gNe (fV 1) (fC (.int 0)))) (sSeq (sAsg (fO gMod (fV 0) (fV 1)) (gN 2))
    (sSeq (sAsg (fV 1) (gN 0))
    (sAsg (fV 2) (gN 1)))))
    (sRet (fL bAbs (fCons (fV 0) fNil))))
noncomputable def m__law_gcd : List D → Option D := mkP 2 3 b__law_gcd
theorem lo__law_gcd (ds : List D) (d : D) : m__law_gcd ds = some d → D.los 0 ds = true ∧ ds.length = 2 := mkP_lo
theorem e__law_gcd (d0 d1 : D) (h : D.los 0 [d0, d1] = true) : m__law_gcd [d0, d1] = ob (b__law_gcd [some d0, some d1, none] []) finP := mkP_e h rfl rfl
noncomputable def b__law_part : FS :=
  (sSeq (sAsg (fCP m__law_gcd (fCons (fV 0) (fCons (fV 1) fNil))) (gN 2))
    (sSeq (sIf (tV (fO gLt (fV 1) (fC (.int 0)))) (sAsg (fU gNeg (fV 2)) (gN 2)) sNext)
    (sRet (fTup (fCons (fO gFd (fV 0) (fV 2)) (fCons (fO gFd (fV 1) (fV 2)) fNil))))))
noncomputable def m__law_part : List D → Option D := mkP 2 3 b__law_part
theorem lo__law_part (ds : List D) (d : D) : m__law_part ds = some d → D.los 0 ds = true ∧ ds.length = 2 := mkP_lo
theorem e__law_part (d0 d1 : D) (h : D.los 0 [d0, d1] = true) : m__law_part [d0, d1] = ob (b__law_part [some d0, some d1, none] []) finP := mkP_e h rfl rfl
noncomputable def b__law_number : FS :=
  (sSeq (sAsg (fO gIx (fLst (fCons (fC (.int 1)) (fCons (fC (.int 1)) (fCons (fC (.int 1)) (fCons (fC (.int 1)) (fCons (fC (.int 2)) (fCons (fC (.int 3)) fNil))))))) (fL m__law_take (fCons (fV 0) (fCons (fC (.int 6)) fNil)))) (gN 2))
    (sRet (fCP m__law_part (fCons (fO gSub (fL m__law_take (fCons (fV 0) (fCons (fO gAdd (fO gMul (fO gMul (fC (.int 2)) (fV 1)) (fV 2)) (fC (.int 1))) fNil))) (fO gMul (fV 1) (fV 2))) (fCons (fV 2) fNil)))))
noncomputable def m__law_number : GL := mkG 2 3 b__law_number
theorem ln__law_number (ds : List D) (M : Mem) (d : D × Mem) : m__law_number ds M = some d → ds.length = 2 := mkG_len
theorem e__law_number (d0 d1 : D) (M : Mem) : m__law_number [d0, d1] M = ob (ob (b__law_number [some d0, some d1, none] M) finM) (kGc M.length) := mkG_e rfl rfl
noncomputable def b__law_point : FS :=
  (sRet (fTup (fCons (fL m__law_number (fCons (fV 0) (fCons (fV 1) fNil))) (fCons (fL m__law_number (fCons (fV 0) (fCons (fV 1) fNil))) (fCons (fL m__law_number (fCons (fV 0) (fCons (fV 1) fNil))) fNil)))))
noncomputable def m__law_point : GL := mkG 2 2 b__law_point
theorem ln__law_point (ds : List D) (M : Mem) (d : D × Mem) : m__law_point ds M = some d → ds.length = 2 := mkG_len
theorem e__law_point (d0 d1 : D) (M : Mem) : m__law_point [d0, d1] M = ob (ob (b__law_point [some d0, some d1] M) finM) (kGc M.length) := mkG_e rfl rfl
noncomputable def b__law_plus : FS :=
  (sRet (fCP m__law_part (fCons (fO gAdd (fO gMul (fO gIx (fV 0) (fC (.int 0))) (fO gIx (fV 1) (fC (.int 1)))) (fO gMul (fO gIx (fV 1) (fC (.int 0))) (fO gIx (fV 0) (fC (.int 1))))) (fCons (fO gMul (fO gIx (fV 0) (fC (.int 1))) (fO gIx (fV 1) (fC (.int 1)))) fNil))))
noncomputable def m__law_plus : List D → Option D := mkP 2 2 b__law_plus
theorem lo__law_plus (ds : List D) (d : D) : m__law_plus ds = some d → D.los 0 ds = true ∧ ds.length = 2 := mkP_lo
theorem e__law_plus (d0 d1 : D) (h : D.los 0 [d0, d1] = true) : m__law_plus [d0, d1] = ob (b__law_plus [some d0, some d1] []) finP := mkP_e h rfl rfl
noncomputable def b__law_times : FS :=
  (sRet (fCP m__law_part (fCons (fO gMul (fO gIx (fV 0) (fC (.int 0))) (fO gIx (fV 1) (fC (.int 0)))) (fCons (fO gMul (fO gIx (fV 0) (fC (.int 1))) (fO gIx (fV 1) (fC (.int 1)))) fNil))))
noncomputable def m__law_times : List D → Option D := mkP 2 2 b__law_times
theorem lo__law_times (ds : List D) (d : D) : m__law_times ds = some d → D.los 0 ds = true ∧ ds.length = 2 := mkP_lo
theorem e__law_times (d0 d1 : D) (h : D.los 0 [d0, d1] = true) : m__law_times [d0, d1] = ob (b__law_times [some d0, some d1] []) finP := mkP_e h rfl rfl
noncomputable def b__law_less : FS :=
  (sRet (fCP m__law_part (fCons (fO gSub (fO gMul (fO gIx (fV 0) (fC (.int 0))) (fO gIx (fV 1) (fC (.int 1)))) (fO gMul (fO gIx (fV 1) (fC (.int 0))) (fO gIx (fV 0) (fC (.int 1))))) (fCons (fO gMul (fO gIx (fV 0) (fC (.int 1))) (fO gIx (fV 1) (fC (.int 1)))) fNil))))
noncomputable def m__law_less : List D → Option D := mkP 2 2 b__law_less
theorem lo__law_less (ds : List D) (d : D) : m__law_less ds = some d → D.los 0 ds = true ∧ ds.length = 2 := mkP_lo
theorem e__law_less (d0 d1 : D) (h : D.los 0 [d0, d1] = true) : m__law_less [d0, d1] = ob (b__law_less [some d0, some d1] []) finP := mkP_e h rfl rfl
noncomputable def b__law_way : FS :=
  (sSeq (sAsg (fLc (iR1 (fC (.int 3))) (gN 2) tYesD (fTup (fCons (fO gSub (fL m__law_take (fCons (fV 0) (fCons (fC (.int 7)) fNil))) (fC (.int 3))) (fCons (fC (.int 1)) fNil))) [2]) (gN 1))
    (sSeq (sIf (tV (fO gEq (fV 1) (fO gMul (fLst (fCons (fTup (fCons (fC (.int 0)) (fCons (fC (.int 1)) fNil))) fNil)) (fC (.int 3))))) (sSub (fTup (fCons (fC (.int 1)) (fCons (fC (.int 1)) fNil))) (fV 1) (fL m__law_take (fCons (fV 0) (fCons (fC (.int 3)) fNil)))) sNext)
    (sRet (fL bTuple (fCons (fV 1) fNil)))))
noncomputable def m__law_way : GL := mkG 1 3 b__law_way
theorem ln__law_way (ds : List D) (M : Mem) (d : D × Mem) : m__law_way ds M = some d → ds.length = 1 := mkG_len
theorem e__law_way (d0 : D) (M : Mem) : m__law_way [d0] M = ob (ob (b__law_way [some d0, none, none] M) finM) (kGc M.length) := mkG_e rfl rfl
noncomputable def b__law_put : FS :=
  (sRet (fO gAdd (fO gAdd (fSli (fV 0) none (some (fV 1))) (fTup (fCons (fV 2) fNil))) (fSli (fV 0) (some (fO gAdd (fV 1) (fC (.int 1)))) none)))
noncomputable def m__law_put : List D → Option D := mkP 3 3 b__law_put
theorem lo__law_put (ds : List D) (d : D) : m__law_put ds = some d → D.los 0 ds = true ∧ ds.length = 3 := mkP_lo
theorem e__law_put (d0 d1 d2 : D) (h : D.los 0 [d0, d1, d2] = true) : m__law_put [d0, d1, d2] = ob (b__law_put [some d0, some d1, some d2] []) finP := mkP_e h rfl rfl
noncomputable def b__law_through : FS :=
  (sRet (fCP m__law_part (fCons (fO gMul (fO gIx (fV 0) (fC (.int 0))) (fO gIx (fV 1) (fC (.int 1)))) (fCons (fO gMul (fO gIx (fV 0) (fC (.int 1))) (fO gIx (fV 1) (fC (.int 0)))) fNil))))
noncomputable def m__law_through : List D → Option D := mkP 2 2 b__law_through
theorem lo__law_through (ds : List D) (d : D) : m__law_through ds = some d → D.los 0 ds = true ∧ ds.length = 2 := mkP_lo
theorem e__law_through (d0 d1 : D) (h : D.los 0 [d0, d1] = true) : m__law_through [d0, d1] = ob (b__law_through [some d0, some d1] []) finP := mkP_e h rfl rfl
noncomputable def b__law_span : FS :=
  (sSeq (sAsg (fTup (fCons (fC (.int 0)) (fCons (fC (.int 1)) fNil))) (gN 2))
    (sSeq (sAsg (fC .non) (gN 3))
    (sSeq (sFor (iR1 (fC (.int 3))) (gN 4) (sSeq (sAsg (fCP m__law_less (fCons (fO gIx (fO gIx (fV 0) (fC (.int 0))) (fV 4)) (fCons (fO gIx (fO gIx (fV 1) (fC (.int 0))) (fV 4)) fNil))) (gN 5))
    (sSeq (sAsg (fCP m__law_less (fCons (fO gIx (fO gIx (fV 0) (fC (.int 1))) (fV 4)) (fCons (fO gIx (fO gIx (fV 1) (fC (.int 0))) (fV 4)) fNil))) (gN 6))
    (sSeq (sAsg (fO gIx (fO gIx (fV 1) (fC (.int 1))) (fV 4)) (gN 7))
    (sIf (tV (fO gEq (fO gIx (fV 7) (fC (.int 0))) (fC (.int 0)))) (sIf (tOr2 (tV (fO gGt (fO gIx (fV 5) (fC (.int 0))) (fC (.int 0)))) (tV (fO gLt (fO gIx (fV 6) (fC (.int 0))) (fC (.int 0))))) (sRet (fC .non)) sNext) (sSeq (sAsg (fLst (fCons (fCP m__law_through (fCons (fV 5) (fCons (fV 7) fNil))) (fCons (fCP m__law_through (fCons (fV 6) (fCons (fV 7) fNil))) fNil))) (gN 8))
    (sSeq (sIf (tV (fO gLt (fO gIx (fV 7) (fC (.int 0))) (fC (.int 0)))) (sAsg (fU gRev (fV 8)) (gN 8)) sNext)
    (sSeq (sIf (tV (fO gGt (fO gIx (fCP m__law_less (fCons (fO gIx (fV 8) (fC (.int 0))) (fCons (fV 2) fNil))) (fC (.int 0))) (fC (.int 0)))) (sAsg (fO gIx (fV 8) (fC (.int 0))) (gN 2)) sNext)
    (sIf (tOr2 (tV (fO gIsN (fV 3) (fC .non))) (tV (fO gLt (fO gIx (fCP m__law_less (fCons (fO gIx (fV 8) (fC (.int 1))) (fCons (fV 3) fNil))) (fC (.int 0))) (fC (.int 0))))) (sAsg (fO gIx (fV 8) (fC (.int 1))) (gN 3)) sNext)))))))))
    (sSeq (sIf (tV (fO gLt (fO gIx (fCP m__law_less (fCons (fV 3) (fCons (fV 2) fNil))) (fC (.int 0))) (fC (.int 0)))) (sRet (fC .non)) sNext)
    (sRet (fTup (fCons (fV 2) (fCons (fV 3) fNil))))))))
noncomputable def m__law_span : List D → Option D := mkP 2 9 b__law_span
theorem lo__law_span (ds : List D) (d : D) : m__law_span ds = some d → D.los 0 ds = true ∧ ds.length = 2 := mkP_lo
theorem e__law_span (d0 d1 : D) (h : D.los 0 [d0, d1] = true) : m__law_span [d0, d1] = ob (b__law_span [some d0, some d1, none, none, none, none, none, none, none] []) finP := mkP_e h rfl rfl
noncomputable def b__law_ray : FS :=
  (sRet (fTup (fCons (fL m__law_point (fCons (fV 0) (fCons (fC (.int 6)) fNil))) (fCons (fL m__law_way (fCons (fV 0) fNil)) fNil))))
noncomputable def m__law_ray : GL := mkG 1 1 b__law_ray
theorem ln__law_ray (ds : List D) (M : Mem) (d : D × Mem) : m__law_ray ds M = some d → ds.length = 1 := mkG_len
theorem e__law_ray (d0 : D) (M : Mem) : m__law_ray [d0] M = ob (ob (b__law_ray [some d0] M) finM) (kGc M.length) := mkG_e rfl rfl
noncomputable def b__law_flat_box : FS :=
  (sSeq (sAsg (fL m__law_point (fCons (fV 0) (fCons (fC (.int 4)) fNil))) (gN 1))
    (sSeq (sAsg (fL bTuple (fCons (fLc (iE (fV 1)) (gN 3) tYesD (fCP m__law_plus (fCons (fV 3) (fCons (fCP m__law_part (fCons (fL m__law_take (fCons (fV 0) (fCons (fC (.int 6)) fNil))) (fCons (fO gAdd (fC (.int 1)) (fL m__law_take (fCons (fV 0) (fCons (fC (.int 2)) fNil)))) fNil))) fNil))) [3]) fNil)) (gN 2))
    (sRet (fTup (fCons (fV 1) (fCons (fV 2) fNil))))))
noncomputable def m__law_flat_box : GL := mkG 1 4 b__law_flat_box
theorem ln__law_flat_box (ds : List D) (M : Mem) (d : D × Mem) : m__law_flat_box ds M = some d → ds.length = 1 := mkG_len
theorem e__law_flat_box (d0 : D) (M : Mem) : m__law_flat_box [d0] M = ob (ob (b__law_flat_box [some d0, none, none, none] M) finM) (kGc M.length) := mkG_e rfl rfl
noncomputable def b__law_spot_of : FS :=
  (sSeq (sAsg (fLst fNil) (gN 2))
    (sSeq (sFor (iR1 (fC (.int 3))) (gN 3) (sSeq (sAsg (fO gIx (fLst (fCons (fTup (fCons (fC (.int 0)) (fCons (fC (.int 1)) fNil))) (fCons (fTup (fCons (fC (.int 1)) (fCons (fC (.int 1)) fNil))) (fCons (fTup (fCons (fC (.int 1)) (fCons (fC (.int 2)) fNil))) (fCons (fTup (fCons (fC (.int 1)) (fCons (fC (.int 3)) fNil))) fNil))))) (fL m__law_take (fCons (fV 0) (fCons (fC (.int 4)) fNil)))) (gN 4))
    (sDrop (fML mApp (fV 2) (fCons (fCP m__law_plus (fCons (fO gIx (fO gIx (fV 1) (fC (.int 0))) (fV 3)) (fCons (fCP m__law_times (fCons (fV 4) (fCons (fCP m__law_less (fCons (fO gIx (fO gIx (fV 1) (fC (.int 1))) (fV 3)) (fCons (fO gIx (fO gIx (fV 1) (fC (.int 0))) (fV 3)) fNil))) fNil))) fNil))) fNil)))))
    (sRet (fL bTuple (fCons (fV 2) fNil)))))
noncomputable def m__law_spot_of : GL := mkG 2 5 b__law_spot_of
theorem ln__law_spot_of (ds : List D) (M : Mem) (d : D × Mem) : m__law_spot_of ds M = some d → ds.length = 2 := mkG_len
theorem e__law_spot_of (d0 d1 : D) (M : Mem) : m__law_spot_of [d0, d1] M = ob (ob (b__law_spot_of [some d0, some d1, none, none, none] M) finM) (kGc M.length) := mkG_e rfl rfl
noncomputable def b__law_ray_by : FS :=
  (sSeq (sAsg (fL m__law_take (fCons (fV 0) (fCons (fC (.int 5)) fNil))) (gN 2))
    (sSeq (sAsg (fL m__law_point (fCons (fV 0) (fCons (fC (.int 7)) fNil))) (gN 3))
    (sSeq (sIf (tV (fO gEq (fV 2) (fC (.int 0)))) (sRet (fTup (fCons (fV 3) (fCons (fL m__law_way (fCons (fV 0) fNil)) fNil)))) sNext)
    (sSeq (sIf (tV (fO gEq (fV 2) (fC (.int 1)))) (sRet (fTup (fCons (fL m__law_spot_of (fCons (fV 0) (fCons (fV 1) fNil))) (fCons (fL m__law_way (fCons (fV 0) fNil)) fNil)))) sNext)
    (sSeq (sAsg (fL m__law_spot_of (fCons (fV 0) (fCons (fV 1) fNil))) (gN 4))
    (sSeq (sAsg (fLc (iR1 (fC (.int 3))) (gN 7) tYesD (fCP m__law_less (fCons (fO gIx (fV 4) (fV 7)) (fCons (fO gIx (fV 3) (fV 7)) fNil))) [7]) (gN 5))
    (sSeq (sIf (tV (fO gEq (fV 2) (fC (.int 2)))) (sSeq (sAsg (fL m__law_take (fCons (fV 0) (fCons (fC (.int 3)) fNil))) (gN 6))
    (sSeq (sSub (fTup (fCons (fC (.int 0)) (fCons (fC (.int 1)) fNil))) (fV 5) (fV 6))
    (sAsg (fCP m__law_put (fCons (fV 3) (fCons (fV 6) (fCons (fO gIx (fV 4) (fV 6)) fNil)))) (gN 3)))) sNext)
    (sSeq (sIf (tV (fO gEq (fV 2) (fC (.int 3)))) (sAsg (fLc (iE (fV 5)) (gN 8) tYesD (fTup (fCons (fU gNeg (fO gIx (fV 8) (fC (.int 0)))) (fCons (fO gIx (fV 8) (fC (.int 1))) fNil))) [8]) (gN 5)) sNext)
    (sSeq (sIf (tV (fO gEq (fV 5) (fO gMul (fLst (fCons (fTup (fCons (fC (.int 0)) (fCons (fC (.int 1)) fNil))) fNil)) (fC (.int 3))))) (sSub (fTup (fCons (fU gNeg (fC (.int 1))) (fCons (fC (.int 2)) fNil))) (fV 5) (fL m__law_take (fCons (fV 0) (fCons (fC (.int 3)) fNil)))) sNext)
    (sRet (fTup (fCons (fV 3) (fCons (fL bTuple (fCons (fV 5) fNil)) fNil)))))))))))))
noncomputable def m__law_ray_by : GL := mkG 2 9 b__law_ray_by
theorem ln__law_ray_by (ds : List D) (M : Mem) (d : D × Mem) : m__law_ray_by ds M = some d → ds.length = 2 := mkG_len
theorem e__law_ray_by (d0 d1 : D) (M : Mem) : m__law_ray_by [d0, d1] M = ob (ob (b__law_ray_by [some d0, some d1, none, none, none, none, none, none, none] M) finM) (kGc M.length) := mkG_e rfl rfl
noncomputable def b_law : FS :=
  (sSeq (sAsg (fL m__law_deck (fCons (fV 0) fNil)) (gN 1))
    (sSeq (sFor (iR1 (fC (.int 5))) (gN 2) (sSeq (sAsg (fL m__law_flat_box (fCons (fV 1) fNil)) (gN 3))
    (sSeq (sAsg (fL m__law_ray_by (fCons (fV 1) (fCons (fV 3) fNil))) (gN 4))
    (sIf (tV (fO gNe (fL bRepr (fCons (fCP m_box_stretch (fCons (fV 3) (fCons (fV 4) fNil))) fNil)) (fL bRepr (fCons (fCP m__law_span (fCons (fV 3) (fCons (fV 4) fNil))) fNil)))) (sRet (fC (.bl false))) sNext))))
    (sRet (fO gIsN (fCP m_box_stretch (fCons (fTup fNil) (fCons (fL m__law_ray (fCons (fV 1) fNil)) fNil))) (fC .non)))))
noncomputable def m_law : GL := mkM 1 5 b_law
theorem e_law (d0 : D) (M : Mem) : m_law [d0] M = ob (b_law [some d0, none, none, none, none] M) finM := mkM_e rfl rfl

/-! ### fractions -/
def eF (q : Rat) : D := .tup [.int q.num, .int (q.den : Int)]
theorem lo_eF (n : Nat) (q : Rat) : D.lo n (eF q) = true := rfl
theorem los_cons (n : Nat) (d : D) (ds : List D) : D.los n (d :: ds) = (D.lo n d && D.los n ds) := rfl
theorem lo_int (n : Nat) (i : Int) : D.lo n (.int i) = true := rfl
theorem ix_eF0 (q : Rat) (M : Mem) : gIx (eF q) (.int 0) M = some (.int q.num, M) := rfl
theorem ix_eF1 (q : Rat) (M : Mem) : gIx (eF q) (.int 1) M = some (.int (q.den : Int), M) := rfl
/- the loop of frac -/
theorem frac_loop (x0 x1 : Option D) (M : Mem) (a b : Int) : ∀ (n : Nat) (x y : Int), y.natAbs < n → GInv a b x y → wl (tTr (fV 3)) (sPar 2 3 (fCons (fV 3) (fCons (fO gMod (fV 2) (fV 3)) fNil))) n [x0, x1, some (.int x), some (.int y)] M = some (.nx [x0, x1, some (.int (sg a b)), some (.int 0)], M)
  | 0, _, _, h, _ => absurd h (by omega)
  | n + 1, x, y, h, g => by
    unfold wl
    by_cases hy : y = 0
    · subst hy
      rw [← g.fin]
      rfl
    · obtain ⟨g', hm⟩ := g.next hy
      have ih := frac_loop x0 x1 M a b n y (x.fmod y) (by omega) g'
      have e1 : tTr (fV 3) [x0, x1, some (.int x), some (.int y)] M = some (true, M) := by
        simp only [↓ev_V, ↓ev_C, ↓ev_O, ↓ev_U, ↓ev_Nil, ↓ev_Cons, ↓ev_L, ↓ev_If, ↓ev_tV, ↓ev_tTr, ↓ev_tAn, ↓ev_tOr, ↓ev_tNo, ↓ev_NotB, ↓ev_AnB, ↓ev_OrB, ↓ev_Tup, ↓ev_Lst, ↓ev_CP, ↓ev_ML, ↓ev_Sli, ↓ev_oN, ↓ev_oS, ↓ev_Ch, ↓ev_gN, ↓ev_gsNil, ↓ev_gsCons, ↓ev_gT, ↓ev_Seq, ↓ev_Asg, ↓ev_Par, ↓ev_Ret, ↓ev_Drop, ↓ev_sIf, ↓ev_Next, ↓ev_Brk, ↓ev_Cont, ↓ev_RetN, ↓ev_Sub, ↓ev_For, ↓ev_body, ↓ev_iE, ↓ev_iR1, ↓ev_iR2, ↓ev_iZ, ↓ev_iEn, ↓ev_item, ↓ev_Lc, ↓ev_Yes, ↓ev_Par3, ↓ev_As2, ↓ev_As4, ↓ev_CV, ↓ev_Fld, ↓ev_Mk, ↓ev_Mk0, ↓ev_Mt, ↓ev_ForM, ↓ev_bodyM, ↓ev_gTmT, ↓ev_gTmR, ↓ev_AsgM, ↓ev_Star, ↓ev_Dc, ↓ev_iRr, ↓ev_iRv, ↓ev_iZ3, ↓ev_iZ4, ↓ev_LR2, kForM_e, kAsgM_e, kSt1_e, kSt2_e, kSt3_e, seqT, seqRf, popRf, insRf, inE, notInE, kDc_e, kRr_e, kRv_e, revT, revL, vOf_e, kO_e, kO2_e, kU_e, kCons_e, kCons2_e, kL_e, kIf_t, kIf_f, kB_e, kTr_e, kTr2_e, kAn_t, kAn_f, kOr_t, kOr_f, kNo_e, kNotB_e, kAnB_t, kAnB_f, kOrB_t, kOrB_f, kTup_e, kLst_e, kCP_e, kD_e, kML_e, kML2_e, kS1_e, kS2_e, kS3_e, kI_e, kCh1_e, kCh2_e, kCh3_t, kCh3_f, kAsg_e, kNx_e, kRet_e, kDrop_e, kSif_t, kSif_f, kSub1_e, kSub2_e, kSub3_e, kNxM_e, kFor_e, kBody_e, kIE_e, kSrc_e, kR1_e, kR2_e, kR2b_e, kZ1_e, kZ2_e, kEn_e, kMap_e, kMap2_e, kIt1_e, kIt2_t, kIt2_f, kSome_e, kLc_e, kLc2_e, kGc_e, par3_e, kAs2_e, kAs3_e, kAs4_e, kAs5_e, kAs6_e, fnOf2_e, fnV_e, kCV_e, kFld1_e, kFld2_e, kMk_e, kMk2_e, kMt_e, kMt2_e, kMt3_e, gFldE, setFE, metE, insAt_zero, insAt_succ, ob_s, ob_n, then_nx, then_rt, then_bk, then_ct, par2_e, turn_nx, turn_ct, turn_bk, turn_rt, runT_nil, runT_cons, mapT_nil, mapT_cons, finP_nx, finM_rt, finM_nx, addE, subE, negE, cmpE, ixT, truI, truB, at0, at1, at2, at3, List.getElem?_cons_zero, List.getElem?_cons_succ, List.set_cons_zero, List.set_cons_succ, List.length_cons, List.length_nil, Nat.reduceAdd, Nat.reduceLeDiff, if_true, if_false, reduceIte, reduceCtorEq, id_eq, Bool.not_true, Bool.not_false, Bool.false_eq_true, and_self, Int.reduceLE, Int.reduceLT, Int.reduceNeg, decide_true, decide_false, Option.toList_some, Option.toList_none, List.cons_append, List.nil_append, ixRf, tupRf, lenRf, listRf, isLstRf, appRf, revRf, setRf, itemsRf, itemsT, itemsL, zipT, zipRf, allRf, anyRf, sumRf, tupT, slRf, isiE, t2E, lenT, lstAt_zero, lstAt_succ, Option.isSome_some, Nat.reduceLT, Bool.or_true, Bool.or_false, Bool.true_or, Bool.false_or, gIsN, gNotN, D.isNon, wipeD, isBlE, notBlE, min1Rf, kZa_e, kZb_e, kZc_e, kZd_e, kZe_e, kZa4_e, kZb4_e, kLRa_e, kLRb_e, zip3T, zip4T]
        simp [hy]
      have e2 : sPar 2 3 (fCons (fV 3) (fCons (fO gMod (fV 2) (fV 3)) fNil)) [x0, x1, some (.int x), some (.int y)] M = some (.nx [x0, x1, some (.int y), some (.int (x.fmod y))], M) := by
        simp only [↓ev_V, ↓ev_C, ↓ev_O, ↓ev_U, ↓ev_Nil, ↓ev_Cons, ↓ev_L, ↓ev_If, ↓ev_tV, ↓ev_tTr, ↓ev_tAn, ↓ev_tOr, ↓ev_tNo, ↓ev_NotB, ↓ev_AnB, ↓ev_OrB, ↓ev_Tup, ↓ev_Lst, ↓ev_CP, ↓ev_ML, ↓ev_Sli, ↓ev_oN, ↓ev_oS, ↓ev_Ch, ↓ev_gN, ↓ev_gsNil, ↓ev_gsCons, ↓ev_gT, ↓ev_Seq, ↓ev_Asg, ↓ev_Par, ↓ev_Ret, ↓ev_Drop, ↓ev_sIf, ↓ev_Next, ↓ev_Brk, ↓ev_Cont, ↓ev_RetN, ↓ev_Sub, ↓ev_For, ↓ev_body, ↓ev_iE, ↓ev_iR1, ↓ev_iR2, ↓ev_iZ, ↓ev_iEn, ↓ev_item, ↓ev_Lc, ↓ev_Yes, ↓ev_Par3, ↓ev_As2, ↓ev_As4, ↓ev_CV, ↓ev_Fld, ↓ev_Mk, ↓ev_Mk0, ↓ev_Mt, ↓ev_ForM, ↓ev_bodyM, ↓ev_gTmT, ↓ev_gTmR, ↓ev_AsgM, ↓ev_Star, ↓ev_Dc, ↓ev_iRr, ↓ev_iRv, ↓ev_iZ3, ↓ev_iZ4, ↓ev_LR2, kForM_e, kAsgM_e, kSt1_e, kSt2_e, kSt3_e, seqT, seqRf, popRf, insRf, inE, notInE, kDc_e, kRr_e, kRv_e, revT, revL, vOf_e, kO_e, kO2_e, kU_e, kCons_e, kCons2_e, kL_e, kIf_t, kIf_f, kB_e, kTr_e, kTr2_e, kAn_t, kAn_f, kOr_t, kOr_f, kNo_e, kNotB_e, kAnB_t, kAnB_f, kOrB_t, kOrB_f, kTup_e, kLst_e, kCP_e, kD_e, kML_e, kML2_e, kS1_e, kS2_e, kS3_e, kI_e, kCh1_e, kCh2_e, kCh3_t, kCh3_f, kAsg_e, kNx_e, kRet_e, kDrop_e, kSif_t, kSif_f, kSub1_e, kSub2_e, kSub3_e, kNxM_e, kFor_e, kBody_e, kIE_e, kSrc_e, kR1_e, kR2_e, kR2b_e, kZ1_e, kZ2_e, kEn_e, kMap_e, kMap2_e, kIt1_e, kIt2_t, kIt2_f, kSome_e, kLc_e, kLc2_e, kGc_e, par3_e, kAs2_e, kAs3_e, kAs4_e, kAs5_e, kAs6_e, fnOf2_e, fnV_e, kCV_e, kFld1_e, kFld2_e, kMk_e, kMk2_e, kMt_e, kMt2_e, kMt3_e, gFldE, setFE, metE, insAt_zero, insAt_succ, ob_s, ob_n, then_nx, then_rt, then_bk, then_ct, par2_e, turn_nx, turn_ct, turn_bk, turn_rt, runT_nil, runT_cons, mapT_nil, mapT_cons, finP_nx, finM_rt, finM_nx, addE, subE, negE, cmpE, ixT, truI, truB, at0, at1, at2, at3, List.getElem?_cons_zero, List.getElem?_cons_succ, List.set_cons_zero, List.set_cons_succ, List.length_cons, List.length_nil, Nat.reduceAdd, Nat.reduceLeDiff, if_true, if_false, reduceIte, reduceCtorEq, id_eq, Bool.not_true, Bool.not_false, Bool.false_eq_true, and_self, Int.reduceLE, Int.reduceLT, Int.reduceNeg, decide_true, decide_false, Option.toList_some, Option.toList_none, List.cons_append, List.nil_append, ixRf, tupRf, lenRf, listRf, isLstRf, appRf, revRf, setRf, itemsRf, itemsT, itemsL, zipT, zipRf, allRf, anyRf, sumRf, tupT, slRf, isiE, t2E, lenT, lstAt_zero, lstAt_succ, Option.isSome_some, Nat.reduceLT, Bool.or_true, Bool.or_false, Bool.true_or, Bool.false_or, gIsN, gNotN, D.isNon, wipeD, isBlE, notBlE, min1Rf, kZa_e, kZb_e, kZc_e, kZd_e, kZe_e, kZa4_e, kZb4_e, kLRa_e, kLRb_e, zip3T, zip4T, modE hy]
      rw [e1]
      simp only [Option.bind_some, if_true, e2]
      exact ih

/-! ### numbers, further -/
theorem bt_abs {m : Nat} {x : Int} (h1 : -(2 ^ m) < x) (h2 : x < 2 ^ m) : Bt m x := by
  unfold Bt
  have : ((x.natAbs : Nat) : Int) < ((2 ^ m : Nat) : Int) := by
    have e : ((2 ^ m : Nat) : Int) = (2 : Int) ^ m := by simp
    rw [e]
    omega
  exact Int.ofNat_lt.mp this
theorem eF_int (n : Int) : D.tup [.int n, .int 1] = eF (n : Rat) := by
  unfold eF
  rw [Rat.num_intCast, Rat.den_intCast]
  rfl
theorem rb_int {m : Nat} (hm : 1 ≤ m) {x : Int} (h : Bt m x) : Rb m (x : Rat) := by
  unfold Rb
  rw [Rat.num_intCast, Rat.den_intCast]
  exact ⟨h, Bt.mono (m := 1) (by unfold Bt; decide) hm⟩
theorem upto3 : upto 0 (Int.toNat 3) = [.int 0, .int 1, .int 2] := rfl
theorem new_at0 {A : Mem} {c : Cell} (C : Mem) {n : Nat} (h : A.length = n) : (A ++ c :: C)[n]? = some c := by
  subst h
  simp

/-! ### sizes by themselves -/
class Bg (n : outParam Nat) (i : Int) : Prop where
  one : 1 ≤ n
  bt : Bt (100 * n) i
theorem bg_pow {m n : Nat} (hm : 1 ≤ m) (hn : 1 ≤ n) : 2 ^ (100 * m) + 2 ^ (100 * n) ≤ 2 ^ (100 * (m + n)) := by
  have h1 : 2 ^ (100 * m) ≤ 2 ^ (100 * (m + n) - 1) := Nat.pow_le_pow_right (by decide) (by omega)
  have h2 : 2 ^ (100 * n) ≤ 2 ^ (100 * (m + n) - 1) := Nat.pow_le_pow_right (by decide) (by omega)
  have h3 : 2 ^ (100 * (m + n)) = 2 ^ (100 * (m + n) - 1) * 2 := by
    rw [← Nat.pow_succ]
    congr 1
    omega
  omega
instance bg_mul {m n : Nat} {i j : Int} [a : Bg m i] [b : Bg n j] : Bg (m + n) (i * j) := ⟨by have := a.one; omega, (a.bt.mul b.bt).mono (by omega)⟩
instance bg_add {m n : Nat} {i j : Int} [a : Bg m i] [b : Bg n j] : Bg (m + n) (i + j) := ⟨by have := a.one; omega, by
  have h := bg_pow a.one b.one
  have h1 := a.bt
  have h2 := b.bt
  unfold Bt at *
  omega⟩
instance bg_sub {m n : Nat} {i j : Int} [a : Bg m i] [b : Bg n j] : Bg (m + n) (i - j) := ⟨by have := a.one; omega, by
  have h := bg_pow a.one b.one
  have h1 := a.bt
  have h2 := b.bt
  unfold Bt at *
  omega⟩
instance bg_neg {m : Nat} {i : Int} [a : Bg m i] : Bg m (-i) := ⟨a.one, a.bt.neg⟩
theorem bg_small {i : Int} (h1 : -(2 ^ 100) < i) (h2 : i < 2 ^ 100) : Bg 1 i := ⟨by decide, bt_abs (m := 100) h1 h2⟩
instance : Bg 1 0 := bg_small (by decide) (by decide)
instance : Bg 1 1 := bg_small (by decide) (by decide)
instance : Bg 1 2 := bg_small (by decide) (by decide)
instance : Bg 1 3 := bg_small (by decide) (by decide)
instance : Bg 1 4 := bg_small (by decide) (by decide)
/-! ### loops by what holds between two turns -/
theorem upto_get {lo : Int} {n j : Nat} {d : D} (h : (upto lo n)[j]? = some d) : j < n ∧ d = .int (lo + j) := by
  simp only [upto, List.getElem?_map, Option.map_eq_some_iff] at h
  obtain ⟨i, e, rfl⟩ := h
  obtain ⟨h1, h2⟩ := List.getElem?_eq_some_iff.mp e
  simp at h1 h2
  subst h2
  exact ⟨h1, rfl⟩
section
variable {l : Nat} {xs : List D} {M : Mem} (h : M[l]? = some (.lst xs))
include h
end

theorem frac_e {a b : Int} (hb : b ≠ 0) (h : Bt 9000 b) : m_frac [.int a, .int b] = some (eF (Rat.divInt a b)) := by
  have w := sWhile_of (frac_loop (some (.int a)) (some (.int b)) [] a b _ b (a.fmod b) (Nat.lt_succ_self _) (GInv.start hb))
  obtain ⟨hs, hs'⟩ := sg_ne (a := a) hb
  rw [e_frac _ _ rfl]
  unfold b_frac
  simp only [↓ev_V, ↓ev_C, ↓ev_O, ↓ev_U, ↓ev_Nil, ↓ev_Cons, ↓ev_L, ↓ev_If, ↓ev_tV, ↓ev_tTr, ↓ev_tAn, ↓ev_tOr, ↓ev_tNo, ↓ev_NotB, ↓ev_AnB, ↓ev_OrB, ↓ev_Tup, ↓ev_Lst, ↓ev_CP, ↓ev_ML, ↓ev_Sli, ↓ev_oN, ↓ev_oS, ↓ev_Ch, ↓ev_gN, ↓ev_gsNil, ↓ev_gsCons, ↓ev_gT, ↓ev_Seq, ↓ev_Asg, ↓ev_Par, ↓ev_Ret, ↓ev_Drop, ↓ev_sIf, ↓ev_Next, ↓ev_Brk, ↓ev_Cont, ↓ev_RetN, ↓ev_Sub, ↓ev_For, ↓ev_body, ↓ev_iE, ↓ev_iR1, ↓ev_iR2, ↓ev_iZ, ↓ev_iEn, ↓ev_item, ↓ev_Lc, ↓ev_Yes, ↓ev_Par3, ↓ev_As2, ↓ev_As4, ↓ev_CV, ↓ev_Fld, ↓ev_Mk, ↓ev_Mk0, ↓ev_Mt, ↓ev_ForM, ↓ev_bodyM, ↓ev_gTmT, ↓ev_gTmR, ↓ev_AsgM, ↓ev_Star, ↓ev_Dc, ↓ev_iRr, ↓ev_iRv, ↓ev_iZ3, ↓ev_iZ4, ↓ev_LR2, kForM_e, kAsgM_e, kSt1_e, kSt2_e, kSt3_e, seqT, seqRf, popRf, insRf, inE, notInE, kDc_e, kRr_e, kRv_e, revT, revL, vOf_e, kO_e, kO2_e, kU_e, kCons_e, kCons2_e, kL_e, kIf_t, kIf_f, kB_e, kTr_e, kTr2_e, kAn_t, kAn_f, kOr_t, kOr_f, kNo_e, kNotB_e, kAnB_t, kAnB_f, kOrB_t, kOrB_f, kTup_e, kLst_e, kCP_e, kD_e, kML_e, kML2_e, kS1_e, kS2_e, kS3_e, kI_e, kCh1_e, kCh2_e, kCh3_t, kCh3_f, kAsg_e, kNx_e, kRet_e, kDrop_e, kSif_t, kSif_f, kSub1_e, kSub2_e, kSub3_e, kNxM_e, kFor_e, kBody_e, kIE_e, kSrc_e, kR1_e, kR2_e, kR2b_e, kZ1_e, kZ2_e, kEn_e, kMap_e, kMap2_e, kIt1_e, kIt2_t, kIt2_f, kSome_e, kLc_e, kLc2_e, kGc_e, par3_e, kAs2_e, kAs3_e, kAs4_e, kAs5_e, kAs6_e, fnOf2_e, fnV_e, kCV_e, kFld1_e, kFld2_e, kMk_e, kMk2_e, kMt_e, kMt2_e, kMt3_e, gFldE, setFE, metE, insAt_zero, insAt_succ, ob_s, ob_n, then_nx, then_rt, then_bk, then_ct, par2_e, turn_nx, turn_ct, turn_bk, turn_rt, runT_nil, runT_cons, mapT_nil, mapT_cons, finP_nx, finM_rt, finM_nx, addE, subE, negE, cmpE, ixT, truI, truB, at0, at1, at2, at3, List.getElem?_cons_zero, List.getElem?_cons_succ, List.set_cons_zero, List.set_cons_succ, List.length_cons, List.length_nil, Nat.reduceAdd, Nat.reduceLeDiff, if_true, if_false, reduceIte, reduceCtorEq, id_eq, Bool.not_true, Bool.not_false, Bool.false_eq_true, and_self, Int.reduceLE, Int.reduceLT, Int.reduceNeg, decide_true, decide_false, Option.toList_some, Option.toList_none, List.cons_append, List.nil_append, ixRf, tupRf, lenRf, listRf, isLstRf, appRf, revRf, setRf, itemsRf, itemsT, itemsL, zipT, zipRf, allRf, anyRf, sumRf, tupT, slRf, isiE, t2E, lenT, lstAt_zero, lstAt_succ, Option.isSome_some, Nat.reduceLT, Bool.or_true, Bool.or_false, Bool.true_or, Bool.false_or, gIsN, gNotN, D.isNon, wipeD, isBlE, notBlE, min1Rf, kZa_e, kZb_e, kZc_e, kZd_e, kZe_e, kZa4_e, kZb4_e, kLRa_e, kLRb_e, zip3T, zip4T, modE hb, w, fdE hs (h.le hs')]
  rw [sg_num hb, sg_den hb]
  exact finP_rt _ _ (lo_eF 0 _)
/- two fractions, one operation -/
theorem two_rb {m n : Nat} {q r : Rat} (hq : Rb m q) (hr : Rb n r) (h : m + n ≤ 9000) : MulOk q.num r.den ∧ MulOk r.num q.den ∧ MulOk q.den r.den ∧ MulOk q.num r.num ∧ MulOk q.den r.num ∧ Bt 9000 ((q.den : Int) * (r.den : Int)) ∧ Bt 9000 ((q.den : Int) * r.num) :=
  ⟨mul_bt hq.1 hr.2 (by omega), mul_bt hr.1 hq.2 (by omega), mul_bt hq.2 hr.2 (by omega), mul_bt hq.1 hr.1 (by omega), mul_bt hq.2 hr.1 (by omega), (hq.2.mul hr.2).mono (by omega), (hq.2.mul hr.1).mono (by omega)⟩
theorem minus_e {m n : Nat} {q r : Rat} (hq : Rb m q) (hr : Rb n r) (h : m + n ≤ 9000) : m_minus [eF q, eF r] = some (eF (q - r)) := by
  obtain ⟨h1, h2, h3, _, _, h4, _⟩ := two_rb hq hr h
  rw [e_minus _ _ rfl]
  unfold b_minus
  simp only [↓ev_V, ↓ev_C, ↓ev_O, ↓ev_U, ↓ev_Nil, ↓ev_Cons, ↓ev_L, ↓ev_If, ↓ev_tV, ↓ev_tTr, ↓ev_tAn, ↓ev_tOr, ↓ev_tNo, ↓ev_NotB, ↓ev_AnB, ↓ev_OrB, ↓ev_Tup, ↓ev_Lst, ↓ev_CP, ↓ev_ML, ↓ev_Sli, ↓ev_oN, ↓ev_oS, ↓ev_Ch, ↓ev_gN, ↓ev_gsNil, ↓ev_gsCons, ↓ev_gT, ↓ev_Seq, ↓ev_Asg, ↓ev_Par, ↓ev_Ret, ↓ev_Drop, ↓ev_sIf, ↓ev_Next, ↓ev_Brk, ↓ev_Cont, ↓ev_RetN, ↓ev_Sub, ↓ev_For, ↓ev_body, ↓ev_iE, ↓ev_iR1, ↓ev_iR2, ↓ev_iZ, ↓ev_iEn, ↓ev_item, ↓ev_Lc, ↓ev_Yes, ↓ev_Par3, ↓ev_As2, ↓ev_As4, ↓ev_CV, ↓ev_Fld, ↓ev_Mk, ↓ev_Mk0, ↓ev_Mt, ↓ev_ForM, ↓ev_bodyM, ↓ev_gTmT, ↓ev_gTmR, ↓ev_AsgM, ↓ev_Star, ↓ev_Dc, ↓ev_iRr, ↓ev_iRv, ↓ev_iZ3, ↓ev_iZ4, ↓ev_LR2, kForM_e, kAsgM_e, kSt1_e, kSt2_e, kSt3_e, seqT, seqRf, popRf, insRf, inE, notInE, kDc_e, kRr_e, kRv_e, revT, revL, vOf_e, kO_e, kO2_e, kU_e, kCons_e, kCons2_e, kL_e, kIf_t, kIf_f, kB_e, kTr_e, kTr2_e, kAn_t, kAn_f, kOr_t, kOr_f, kNo_e, kNotB_e, kAnB_t, kAnB_f, kOrB_t, kOrB_f, kTup_e, kLst_e, kCP_e, kD_e, kML_e, kML2_e, kS1_e, kS2_e, kS3_e, kI_e, kCh1_e, kCh2_e, kCh3_t, kCh3_f, kAsg_e, kNx_e, kRet_e, kDrop_e, kSif_t, kSif_f, kSub1_e, kSub2_e, kSub3_e, kNxM_e, kFor_e, kBody_e, kIE_e, kSrc_e, kR1_e, kR2_e, kR2b_e, kZ1_e, kZ2_e, kEn_e, kMap_e, kMap2_e, kIt1_e, kIt2_t, kIt2_f, kSome_e, kLc_e, kLc2_e, kGc_e, par3_e, kAs2_e, kAs3_e, kAs4_e, kAs5_e, kAs6_e, fnOf2_e, fnV_e, kCV_e, kFld1_e, kFld2_e, kMk_e, kMk2_e, kMt_e, kMt2_e, kMt3_e, gFldE, setFE, metE, insAt_zero, insAt_succ, ob_s, ob_n, then_nx, then_rt, then_bk, then_ct, par2_e, turn_nx, turn_ct, turn_bk, turn_rt, runT_nil, runT_cons, mapT_nil, mapT_cons, finP_nx, finM_rt, finM_nx, addE, subE, negE, cmpE, ixT, truI, truB, at0, at1, at2, at3, List.getElem?_cons_zero, List.getElem?_cons_succ, List.set_cons_zero, List.set_cons_succ, List.length_cons, List.length_nil, Nat.reduceAdd, Nat.reduceLeDiff, if_true, if_false, reduceIte, reduceCtorEq, id_eq, Bool.not_true, Bool.not_false, Bool.false_eq_true, and_self, Int.reduceLE, Int.reduceLT, Int.reduceNeg, decide_true, decide_false, Option.toList_some, Option.toList_none, List.cons_append, List.nil_append, ixRf, tupRf, lenRf, listRf, isLstRf, appRf, revRf, setRf, itemsRf, itemsT, itemsL, zipT, zipRf, allRf, anyRf, sumRf, tupT, slRf, isiE, t2E, lenT, lstAt_zero, lstAt_succ, Option.isSome_some, Nat.reduceLT, Bool.or_true, Bool.or_false, Bool.true_or, Bool.false_or, gIsN, gNotN, D.isNon, wipeD, isBlE, notBlE, min1Rf, kZa_e, kZb_e, kZc_e, kZd_e, kZe_e, kZa4_e, kZb4_e, kLRa_e, kLRb_e, zip3T, zip4T, ix_eF0, ix_eF1, mulE h1, mulE h2, mulE h3, frac_e (Int.mul_ne_zero (den_ne q) (den_ne r)) h4, rat_less]
  exact finP_rt _ _ (lo_eF 0 _)
/-! ### equality of data -/
theorem eqR {M : Mem} {i j : Nat} {ds es : List D} {ps qs : List PyData} (hi : M[i]? = some (.lst ds)) (hj : M[j]? = some (.lst es)) (h1 : D.pys ds = some ps) (h2 : D.pys es = some qs) (s1 : SeqAt.shaped (.list ps) = true) (s2 : SeqAt.shaped (.list qs) = true) (neg : Bool) :
    gEqB neg (.rf i) (.rf j) M = some (.bl (if neg then !PyData.eqv (.list ps) (.list qs) else PyData.eqv (.list ps) (.list qs)), M) := by
  simp only [gEqB, toPy, hi, hj, h1, h2, Option.map_some, Option.bind_some]
  rw [if_pos ⟨s1, s2⟩]
theorem eqD {x y : D} {p q : PyData} (hx : x.py = some p) (hy : y.py = some q) (s1 : SeqAt.shaped p = true) (s2 : SeqAt.shaped q = true) (neg : Bool) (M : Mem) : gEqB neg x y M = some (.bl (if neg then !PyData.eqv p q else PyData.eqv p q), M) := by
  have t : ∀ {d : D} {r : PyData}, d.py = some r → toPy M d = some r := fun {d r} h => by
    cases d <;> first | exact h | (cases h)
  simp only [gEqB, t hx, t hy, Option.bind_some]
  rw [if_pos ⟨s1, s2⟩]
theorem eqI (i j : Int) (neg : Bool) (M : Mem) : gEqB neg (.int i) (.int j) M = some (.bl (if neg then !(i == j) else i == j), M) := by
  rw [eqD (x := .int i) (y := .int j) rfl rfl rfl rfl]
  simp [PyData.eqv]
theorem eqIb (i j : Int) (M : Mem) : gEq (.int i) (.int j) M = some (.bl (i == j), M) := eqI i j false M

/-! ### points -/
structure P3 where
  x : Rat
  y : Rat
  z : Rat
def eP (p : P3) : D := .tup [eF p.x, eF p.y, eF p.z]
def P3.B (n : Nat) (p : P3) : Prop := Rb n p.x ∧ Rb n p.y ∧ Rb n p.z
theorem lo_eP (n : Nat) (p : P3) : D.lo n (eP p) = true := rfl
theorem ix_eP0 (p : P3) (M : Mem) : gIx (eP p) (.int 0) M = some (eF p.x, M) := rfl
theorem ix_eP1 (p : P3) (M : Mem) : gIx (eP p) (.int 1) M = some (eF p.y, M) := rfl
theorem ix_eP2 (p : P3) (M : Mem) : gIx (eP p) (.int 2) M = some (eF p.z, M) := rfl
def P3.add (p q : P3) : P3 := ⟨p.x + q.x, p.y + q.y, p.z + q.z⟩
def P3.sub (p q : P3) : P3 := ⟨p.x - q.x, p.y - q.y, p.z - q.z⟩
theorem P3.B.mono {m n : Nat} {p : P3} (h : p.B m) (hn : m ≤ n) : p.B n := ⟨h.1.mono hn, h.2.1.mono hn, h.2.2.mono hn⟩
theorem P3.B.add {m n : Nat} {p q : P3} (h : p.B m) (k : q.B n) : (p.add q).B (m + n + 1) := ⟨h.1.add k.1, h.2.1.add k.2.1, h.2.2.add k.2.2⟩
theorem P3.B.sub {m n : Nat} {p q : P3} (h : p.B m) (k : q.B n) : (p.sub q).B (m + n + 1) := ⟨h.1.sub k.1, h.2.1.sub k.2.1, h.2.2.sub k.2.2⟩
theorem tup3 (p : P3) : D.tup [eF p.x, eF p.y, eF p.z] = eP p := rfl
/-! ### the program's signs and quotients (as in pg, where the law has no dots) -/
theorem sign_e (q : Rat) : m_sign [eF q] = some (.int (if q < 0 then -1 else if 0 < q then 1 else 0)) := by
  rw [e_sign _ rfl]
  unfold b_sign
  have z1 : q.num < 0 ↔ q < 0 := by
    rw [Rat.lt_iff]
    simp
  have z2 : 0 < q.num ↔ 0 < q := by
    rw [Rat.lt_iff]
    simp
  by_cases h1 : q < 0
  · simp only [↓ev_V, ↓ev_C, ↓ev_O, ↓ev_U, ↓ev_Nil, ↓ev_Cons, ↓ev_L, ↓ev_If, ↓ev_tV, ↓ev_tTr, ↓ev_tAn, ↓ev_tOr, ↓ev_tNo, ↓ev_NotB, ↓ev_AnB, ↓ev_OrB, ↓ev_Tup, ↓ev_Lst, ↓ev_CP, ↓ev_ML, ↓ev_Sli, ↓ev_oN, ↓ev_oS, ↓ev_Ch, ↓ev_gN, ↓ev_gsNil, ↓ev_gsCons, ↓ev_gT, ↓ev_Seq, ↓ev_Asg, ↓ev_Par, ↓ev_Ret, ↓ev_Drop, ↓ev_sIf, ↓ev_Next, ↓ev_Brk, ↓ev_Cont, ↓ev_RetN, ↓ev_Sub, ↓ev_For, ↓ev_body, ↓ev_iE, ↓ev_iR1, ↓ev_iR2, ↓ev_iZ, ↓ev_iEn, ↓ev_item, ↓ev_Lc, ↓ev_Yes, ↓ev_Par3, ↓ev_As2, ↓ev_As4, ↓ev_CV, ↓ev_Fld, ↓ev_Mk, ↓ev_Mk0, ↓ev_Mt, ↓ev_ForM, ↓ev_bodyM, ↓ev_gTmT, ↓ev_gTmR, ↓ev_AsgM, ↓ev_Star, ↓ev_Dc, ↓ev_iRr, ↓ev_iRv, ↓ev_iZ3, ↓ev_iZ4, ↓ev_LR2, kForM_e, kAsgM_e, kSt1_e, kSt2_e, kSt3_e, seqT, seqRf, popRf, insRf, inE, notInE, kDc_e, kRr_e, kRv_e, revT, revL, vOf_e, kO_e, kO2_e, kU_e, kCons_e, kCons2_e, kL_e, kIf_t, kIf_f, kB_e, kTr_e, kTr2_e, kAn_t, kAn_f, kOr_t, kOr_f, kNo_e, kNotB_e, kAnB_t, kAnB_f, kOrB_t, kOrB_f, kTup_e, kLst_e, kCP_e, kD_e, kML_e, kML2_e, kS1_e, kS2_e, kS3_e, kI_e, kCh1_e, kCh2_e, kCh3_t, kCh3_f, kAsg_e, kNx_e, kRet_e, kDrop_e, kSif_t, kSif_f, kSub1_e, kSub2_e, kSub3_e, kNxM_e, kFor_e, kBody_e, kIE_e, kSrc_e, kR1_e, kR2_e, kR2b_e, kZ1_e, kZ2_e, kEn_e, kMap_e, kMap2_e, kIt1_e, kIt2_t, kIt2_f, kSome_e, kLc_e, kLc2_e, kGc_e, par3_e, kAs2_e, kAs3_e, kAs4_e, kAs5_e, kAs6_e, fnOf2_e, fnV_e, kCV_e, kFld1_e, kFld2_e, kMk_e, kMk2_e, kMt_e, kMt2_e, kMt3_e, gFldE, setFE, metE, insAt_zero, insAt_succ, ob_s, ob_n, then_nx, then_rt, then_bk, then_ct, par2_e, turn_nx, turn_ct, turn_bk, turn_rt, runT_nil, runT_cons, mapT_nil, mapT_cons, finP_nx, finM_rt, finM_nx, addE, subE, negE, cmpE, ixT, truI, truB, at0, at1, at2, at3, List.getElem?_cons_zero, List.getElem?_cons_succ, List.set_cons_zero, List.set_cons_succ, List.length_cons, List.length_nil, Nat.reduceAdd, Nat.reduceLeDiff, if_true, if_false, reduceIte, reduceCtorEq, id_eq, Bool.not_true, Bool.not_false, Bool.false_eq_true, and_self, Int.reduceLE, Int.reduceLT, Int.reduceNeg, decide_true, decide_false, Option.toList_some, Option.toList_none, List.cons_append, List.nil_append, ixRf, tupRf, lenRf, listRf, isLstRf, appRf, revRf, setRf, itemsRf, itemsT, itemsL, zipT, zipRf, allRf, anyRf, sumRf, tupT, slRf, isiE, t2E, lenT, lstAt_zero, lstAt_succ, Option.isSome_some, Nat.reduceLT, Bool.or_true, Bool.or_false, Bool.true_or, Bool.false_or, gIsN, gNotN, D.isNon, wipeD, isBlE, notBlE, min1Rf, kZa_e, kZb_e, kZc_e, kZd_e, kZe_e, kZa4_e, kZb4_e, kLRa_e, kLRb_e, zip3T, zip4T, ix_eF0, z1, h1, Int.reduceNeg]
    exact finP_rt _ _ rfl
  · by_cases h2 : 0 < q
    · simp only [↓ev_V, ↓ev_C, ↓ev_O, ↓ev_U, ↓ev_Nil, ↓ev_Cons, ↓ev_L, ↓ev_If, ↓ev_tV, ↓ev_tTr, ↓ev_tAn, ↓ev_tOr, ↓ev_tNo, ↓ev_NotB, ↓ev_AnB, ↓ev_OrB, ↓ev_Tup, ↓ev_Lst, ↓ev_CP, ↓ev_ML, ↓ev_Sli, ↓ev_oN, ↓ev_oS, ↓ev_Ch, ↓ev_gN, ↓ev_gsNil, ↓ev_gsCons, ↓ev_gT, ↓ev_Seq, ↓ev_Asg, ↓ev_Par, ↓ev_Ret, ↓ev_Drop, ↓ev_sIf, ↓ev_Next, ↓ev_Brk, ↓ev_Cont, ↓ev_RetN, ↓ev_Sub, ↓ev_For, ↓ev_body, ↓ev_iE, ↓ev_iR1, ↓ev_iR2, ↓ev_iZ, ↓ev_iEn, ↓ev_item, ↓ev_Lc, ↓ev_Yes, ↓ev_Par3, ↓ev_As2, ↓ev_As4, ↓ev_CV, ↓ev_Fld, ↓ev_Mk, ↓ev_Mk0, ↓ev_Mt, ↓ev_ForM, ↓ev_bodyM, ↓ev_gTmT, ↓ev_gTmR, ↓ev_AsgM, ↓ev_Star, ↓ev_Dc, ↓ev_iRr, ↓ev_iRv, ↓ev_iZ3, ↓ev_iZ4, ↓ev_LR2, kForM_e, kAsgM_e, kSt1_e, kSt2_e, kSt3_e, seqT, seqRf, popRf, insRf, inE, notInE, kDc_e, kRr_e, kRv_e, revT, revL, vOf_e, kO_e, kO2_e, kU_e, kCons_e, kCons2_e, kL_e, kIf_t, kIf_f, kB_e, kTr_e, kTr2_e, kAn_t, kAn_f, kOr_t, kOr_f, kNo_e, kNotB_e, kAnB_t, kAnB_f, kOrB_t, kOrB_f, kTup_e, kLst_e, kCP_e, kD_e, kML_e, kML2_e, kS1_e, kS2_e, kS3_e, kI_e, kCh1_e, kCh2_e, kCh3_t, kCh3_f, kAsg_e, kNx_e, kRet_e, kDrop_e, kSif_t, kSif_f, kSub1_e, kSub2_e, kSub3_e, kNxM_e, kFor_e, kBody_e, kIE_e, kSrc_e, kR1_e, kR2_e, kR2b_e, kZ1_e, kZ2_e, kEn_e, kMap_e, kMap2_e, kIt1_e, kIt2_t, kIt2_f, kSome_e, kLc_e, kLc2_e, kGc_e, par3_e, kAs2_e, kAs3_e, kAs4_e, kAs5_e, kAs6_e, fnOf2_e, fnV_e, kCV_e, kFld1_e, kFld2_e, kMk_e, kMk2_e, kMt_e, kMt2_e, kMt3_e, gFldE, setFE, metE, insAt_zero, insAt_succ, ob_s, ob_n, then_nx, then_rt, then_bk, then_ct, par2_e, turn_nx, turn_ct, turn_bk, turn_rt, runT_nil, runT_cons, mapT_nil, mapT_cons, finP_nx, finM_rt, finM_nx, addE, subE, negE, cmpE, ixT, truI, truB, at0, at1, at2, at3, List.getElem?_cons_zero, List.getElem?_cons_succ, List.set_cons_zero, List.set_cons_succ, List.length_cons, List.length_nil, Nat.reduceAdd, Nat.reduceLeDiff, if_true, if_false, reduceIte, reduceCtorEq, id_eq, Bool.not_true, Bool.not_false, Bool.false_eq_true, and_self, Int.reduceLE, Int.reduceLT, Int.reduceNeg, decide_true, decide_false, Option.toList_some, Option.toList_none, List.cons_append, List.nil_append, ixRf, tupRf, lenRf, listRf, isLstRf, appRf, revRf, setRf, itemsRf, itemsT, itemsL, zipT, zipRf, allRf, anyRf, sumRf, tupT, slRf, isiE, t2E, lenT, lstAt_zero, lstAt_succ, Option.isSome_some, Nat.reduceLT, Bool.or_true, Bool.or_false, Bool.true_or, Bool.false_or, gIsN, gNotN, D.isNon, wipeD, isBlE, notBlE, min1Rf, kZa_e, kZb_e, kZc_e, kZd_e, kZe_e, kZa4_e, kZb4_e, kLRa_e, kLRb_e, zip3T, zip4T, ix_eF0, z1, h1, z2, h2]
      exact finP_rt _ _ rfl
    · simp only [↓ev_V, ↓ev_C, ↓ev_O, ↓ev_U, ↓ev_Nil, ↓ev_Cons, ↓ev_L, ↓ev_If, ↓ev_tV, ↓ev_tTr, ↓ev_tAn, ↓ev_tOr, ↓ev_tNo, ↓ev_NotB, ↓ev_AnB, ↓ev_OrB, ↓ev_Tup, ↓ev_Lst, ↓ev_CP, ↓ev_ML, ↓ev_Sli, ↓ev_oN, ↓ev_oS, ↓ev_Ch, ↓ev_gN, ↓ev_gsNil, ↓ev_gsCons, ↓ev_gT, ↓ev_Seq, ↓ev_Asg, ↓ev_Par, ↓ev_Ret, ↓ev_Drop, ↓ev_sIf, ↓ev_Next, ↓ev_Brk, ↓ev_Cont, ↓ev_RetN, ↓ev_Sub, ↓ev_For, ↓ev_body, ↓ev_iE, ↓ev_iR1, ↓ev_iR2, ↓ev_iZ, ↓ev_iEn, ↓ev_item, ↓ev_Lc, ↓ev_Yes, ↓ev_Par3, ↓ev_As2, ↓ev_As4, ↓ev_CV, ↓ev_Fld, ↓ev_Mk, ↓ev_Mk0, ↓ev_Mt, ↓ev_ForM, ↓ev_bodyM, ↓ev_gTmT, ↓ev_gTmR, ↓ev_AsgM, ↓ev_Star, ↓ev_Dc, ↓ev_iRr, ↓ev_iRv, ↓ev_iZ3, ↓ev_iZ4, ↓ev_LR2, kForM_e, kAsgM_e, kSt1_e, kSt2_e, kSt3_e, seqT, seqRf, popRf, insRf, inE, notInE, kDc_e, kRr_e, kRv_e, revT, revL, vOf_e, kO_e, kO2_e, kU_e, kCons_e, kCons2_e, kL_e, kIf_t, kIf_f, kB_e, kTr_e, kTr2_e, kAn_t, kAn_f, kOr_t, kOr_f, kNo_e, kNotB_e, kAnB_t, kAnB_f, kOrB_t, kOrB_f, kTup_e, kLst_e, kCP_e, kD_e, kML_e, kML2_e, kS1_e, kS2_e, kS3_e, kI_e, kCh1_e, kCh2_e, kCh3_t, kCh3_f, kAsg_e, kNx_e, kRet_e, kDrop_e, kSif_t, kSif_f, kSub1_e, kSub2_e, kSub3_e, kNxM_e, kFor_e, kBody_e, kIE_e, kSrc_e, kR1_e, kR2_e, kR2b_e, kZ1_e, kZ2_e, kEn_e, kMap_e, kMap2_e, kIt1_e, kIt2_t, kIt2_f, kSome_e, kLc_e, kLc2_e, kGc_e, par3_e, kAs2_e, kAs3_e, kAs4_e, kAs5_e, kAs6_e, fnOf2_e, fnV_e, kCV_e, kFld1_e, kFld2_e, kMk_e, kMk2_e, kMt_e, kMt2_e, kMt3_e, gFldE, setFE, metE, insAt_zero, insAt_succ, ob_s, ob_n, then_nx, then_rt, then_bk, then_ct, par2_e, turn_nx, turn_ct, turn_bk, turn_rt, runT_nil, runT_cons, mapT_nil, mapT_cons, finP_nx, finM_rt, finM_nx, addE, subE, negE, cmpE, ixT, truI, truB, at0, at1, at2, at3, List.getElem?_cons_zero, List.getElem?_cons_succ, List.set_cons_zero, List.set_cons_succ, List.length_cons, List.length_nil, Nat.reduceAdd, Nat.reduceLeDiff, if_true, if_false, reduceIte, reduceCtorEq, id_eq, Bool.not_true, Bool.not_false, Bool.false_eq_true, and_self, Int.reduceLE, Int.reduceLT, Int.reduceNeg, decide_true, decide_false, Option.toList_some, Option.toList_none, List.cons_append, List.nil_append, ixRf, tupRf, lenRf, listRf, isLstRf, appRf, revRf, setRf, itemsRf, itemsT, itemsL, zipT, zipRf, allRf, anyRf, sumRf, tupT, slRf, isiE, t2E, lenT, lstAt_zero, lstAt_succ, Option.isSome_some, Nat.reduceLT, Bool.or_true, Bool.or_false, Bool.true_or, Bool.false_or, gIsN, gNotN, D.isNon, wipeD, isBlE, notBlE, min1Rf, kZa_e, kZb_e, kZc_e, kZd_e, kZe_e, kZa4_e, kZb4_e, kLRa_e, kLRb_e, zip3T, zip4T, ix_eF0, z1, h1, z2, h2]
      exact finP_rt _ _ rfl
theorem over_e {m n : Nat} {q r : Rat} (hq : Rb m q) (hr : Rb n r) (h : m + n ≤ 9000) (hz : r ≠ 0) : m_over [eF q, eF r] = some (eF (q / r)) := by
  obtain ⟨h1, _, _, _, h3, _, h4⟩ := two_rb hq hr h
  rw [e_over _ _ rfl]
  unfold b_over
  simp only [↓ev_V, ↓ev_C, ↓ev_O, ↓ev_U, ↓ev_Nil, ↓ev_Cons, ↓ev_L, ↓ev_If, ↓ev_tV, ↓ev_tTr, ↓ev_tAn, ↓ev_tOr, ↓ev_tNo, ↓ev_NotB, ↓ev_AnB, ↓ev_OrB, ↓ev_Tup, ↓ev_Lst, ↓ev_CP, ↓ev_ML, ↓ev_Sli, ↓ev_oN, ↓ev_oS, ↓ev_Ch, ↓ev_gN, ↓ev_gsNil, ↓ev_gsCons, ↓ev_gT, ↓ev_Seq, ↓ev_Asg, ↓ev_Par, ↓ev_Ret, ↓ev_Drop, ↓ev_sIf, ↓ev_Next, ↓ev_Brk, ↓ev_Cont, ↓ev_RetN, ↓ev_Sub, ↓ev_For, ↓ev_body, ↓ev_iE, ↓ev_iR1, ↓ev_iR2, ↓ev_iZ, ↓ev_iEn, ↓ev_item, ↓ev_Lc, ↓ev_Yes, ↓ev_Par3, ↓ev_As2, ↓ev_As4, ↓ev_CV, ↓ev_Fld, ↓ev_Mk, ↓ev_Mk0, ↓ev_Mt, ↓ev_ForM, ↓ev_bodyM, ↓ev_gTmT, ↓ev_gTmR, ↓ev_AsgM, ↓ev_Star, ↓ev_Dc, ↓ev_iRr, ↓ev_iRv, ↓ev_iZ3, ↓ev_iZ4, ↓ev_LR2, kForM_e, kAsgM_e, kSt1_e, kSt2_e, kSt3_e, seqT, seqRf, popRf, insRf, inE, notInE, kDc_e, kRr_e, kRv_e, revT, revL, vOf_e, kO_e, kO2_e, kU_e, kCons_e, kCons2_e, kL_e, kIf_t, kIf_f, kB_e, kTr_e, kTr2_e, kAn_t, kAn_f, kOr_t, kOr_f, kNo_e, kNotB_e, kAnB_t, kAnB_f, kOrB_t, kOrB_f, kTup_e, kLst_e, kCP_e, kD_e, kML_e, kML2_e, kS1_e, kS2_e, kS3_e, kI_e, kCh1_e, kCh2_e, kCh3_t, kCh3_f, kAsg_e, kNx_e, kRet_e, kDrop_e, kSif_t, kSif_f, kSub1_e, kSub2_e, kSub3_e, kNxM_e, kFor_e, kBody_e, kIE_e, kSrc_e, kR1_e, kR2_e, kR2b_e, kZ1_e, kZ2_e, kEn_e, kMap_e, kMap2_e, kIt1_e, kIt2_t, kIt2_f, kSome_e, kLc_e, kLc2_e, kGc_e, par3_e, kAs2_e, kAs3_e, kAs4_e, kAs5_e, kAs6_e, fnOf2_e, fnV_e, kCV_e, kFld1_e, kFld2_e, kMk_e, kMk2_e, kMt_e, kMt2_e, kMt3_e, gFldE, setFE, metE, insAt_zero, insAt_succ, ob_s, ob_n, then_nx, then_rt, then_bk, then_ct, par2_e, turn_nx, turn_ct, turn_bk, turn_rt, runT_nil, runT_cons, mapT_nil, mapT_cons, finP_nx, finM_rt, finM_nx, addE, subE, negE, cmpE, ixT, truI, truB, at0, at1, at2, at3, List.getElem?_cons_zero, List.getElem?_cons_succ, List.set_cons_zero, List.set_cons_succ, List.length_cons, List.length_nil, Nat.reduceAdd, Nat.reduceLeDiff, if_true, if_false, reduceIte, reduceCtorEq, id_eq, Bool.not_true, Bool.not_false, Bool.false_eq_true, and_self, Int.reduceLE, Int.reduceLT, Int.reduceNeg, decide_true, decide_false, Option.toList_some, Option.toList_none, List.cons_append, List.nil_append, ixRf, tupRf, lenRf, listRf, isLstRf, appRf, revRf, setRf, itemsRf, itemsT, itemsL, zipT, zipRf, allRf, anyRf, sumRf, tupT, slRf, isiE, t2E, lenT, lstAt_zero, lstAt_succ, Option.isSome_some, Nat.reduceLT, Bool.or_true, Bool.or_false, Bool.true_or, Bool.false_or, gIsN, gNotN, D.isNon, wipeD, isBlE, notBlE, min1Rf, kZa_e, kZb_e, kZc_e, kZd_e, kZe_e, kZa4_e, kZb4_e, kLRa_e, kLRb_e, zip3T, zip4T, ix_eF0, ix_eF1, mulE h1, mulE h3, frac_e (Int.mul_ne_zero (den_ne q) (num_ne hz)) h4, rat_quot]
  exact finP_rt _ _ (lo_eF 0 _)

/-! ### the law's own fractions: a gcd of its own -/
theorem g57_loop (a b : Int) (M : Mem) : ∀ (n : Nat) (x y : Int) (z : Option D), y.natAbs < n → Int.gcd x y = Int.gcd a b → ∃ g z', g.natAbs = Int.gcd a b ∧ wl (tV (fO gNe (fV 1) (fC (.int 0)))) (sSeq (sAsg (fO gMod (fV 0) (fV 1)) (gN 2)) (sSeq (sAsg (fV 1) (gN 0)) (sAsg (fV 2) (gN 1)))) n [some (.int x), some (.int y), z] M = some (.nx [some (.int g), some (.int 0), z'], M)
  | 0, _, _, _, h, _ => absurd h (by omega)
  | n + 1, x, y, z, h, hg => by
    unfold wl
    have ne : ∀ i j : Int, gNe (.int i) (.int j) M = some (.bl (!(i == j)), M) := fun i j => eqI i j true M
    by_cases hy : y = 0
    · subst hy
      have e1 : tV (fO gNe (fV 1) (fC (.int 0))) [some (.int x), some (.int 0), z] M = some (false, M) := by
        simp only [↓ev_V, ↓ev_C, ↓ev_O, ↓ev_U, ↓ev_Nil, ↓ev_Cons, ↓ev_L, ↓ev_If, ↓ev_tV, ↓ev_tTr, ↓ev_tAn, ↓ev_tOr, ↓ev_tNo, ↓ev_NotB, ↓ev_AnB, ↓ev_OrB, ↓ev_Tup, ↓ev_Lst, ↓ev_CP, ↓ev_ML, ↓ev_Sli, ↓ev_oN, ↓ev_oS, ↓ev_Ch, ↓ev_gN, ↓ev_gsNil, ↓ev_gsCons, ↓ev_gT, ↓ev_Seq, ↓ev_Asg, ↓ev_Par, ↓ev_Ret, ↓ev_Drop, ↓ev_sIf, ↓ev_Next, ↓ev_Brk, ↓ev_Cont, ↓ev_RetN, ↓ev_Sub, ↓ev_For, ↓ev_body, ↓ev_iE, ↓ev_iR1, ↓ev_iR2, ↓ev_iZ, ↓ev_iEn, ↓ev_item, ↓ev_Lc, ↓ev_Yes, ↓ev_Par3, ↓ev_As2, ↓ev_As4, ↓ev_CV, ↓ev_Fld, ↓ev_Mk, ↓ev_Mk0, ↓ev_Mt, ↓ev_ForM, ↓ev_bodyM, ↓ev_gTmT, ↓ev_gTmR, ↓ev_AsgM, ↓ev_Star, ↓ev_Dc, ↓ev_iRr, ↓ev_iRv, ↓ev_iZ3, ↓ev_iZ4, ↓ev_LR2, kForM_e, kAsgM_e, kSt1_e, kSt2_e, kSt3_e, seqT, seqRf, popRf, insRf, inE, notInE, kDc_e, kRr_e, kRv_e, revT, revL, vOf_e, kO_e, kO2_e, kU_e, kCons_e, kCons2_e, kL_e, kIf_t, kIf_f, kB_e, kTr_e, kTr2_e, kAn_t, kAn_f, kOr_t, kOr_f, kNo_e, kNotB_e, kAnB_t, kAnB_f, kOrB_t, kOrB_f, kTup_e, kLst_e, kCP_e, kD_e, kML_e, kML2_e, kS1_e, kS2_e, kS3_e, kI_e, kCh1_e, kCh2_e, kCh3_t, kCh3_f, kAsg_e, kNx_e, kRet_e, kDrop_e, kSif_t, kSif_f, kSub1_e, kSub2_e, kSub3_e, kNxM_e, kFor_e, kBody_e, kIE_e, kSrc_e, kR1_e, kR2_e, kR2b_e, kZ1_e, kZ2_e, kEn_e, kMap_e, kMap2_e, kIt1_e, kIt2_t, kIt2_f, kSome_e, kLc_e, kLc2_e, kGc_e, par3_e, kAs2_e, kAs3_e, kAs4_e, kAs5_e, kAs6_e, fnOf2_e, fnV_e, kCV_e, kFld1_e, kFld2_e, kMk_e, kMk2_e, kMt_e, kMt2_e, kMt3_e, gFldE, setFE, metE, insAt_zero, insAt_succ, ob_s, ob_n, then_nx, then_rt, then_bk, then_ct, par2_e, turn_nx, turn_ct, turn_bk, turn_rt, runT_nil, runT_cons, mapT_nil, mapT_cons, finP_nx, finM_rt, finM_nx, addE, subE, negE, cmpE, ixT, truI, truB, at0, at1, at2, at3, List.getElem?_cons_zero, List.getElem?_cons_succ, List.set_cons_zero, List.set_cons_succ, List.length_cons, List.length_nil, Nat.reduceAdd, Nat.reduceLeDiff, if_true, if_false, reduceIte, reduceCtorEq, id_eq, Bool.not_true, Bool.not_false, Bool.false_eq_true, and_self, Int.reduceLE, Int.reduceLT, Int.reduceNeg, decide_true, decide_false, Option.toList_some, Option.toList_none, List.cons_append, List.nil_append, ixRf, tupRf, lenRf, listRf, isLstRf, appRf, revRf, setRf, itemsRf, itemsT, itemsL, zipT, zipRf, allRf, anyRf, sumRf, tupT, slRf, isiE, t2E, lenT, lstAt_zero, lstAt_succ, Option.isSome_some, Nat.reduceLT, Bool.or_true, Bool.or_false, Bool.true_or, Bool.false_or, gIsN, gNotN, D.isNon, wipeD, isBlE, notBlE, min1Rf, kZa_e, kZb_e, kZc_e, kZd_e, kZe_e, kZa4_e, kZb4_e, kLRa_e, kLRb_e, zip3T, zip4T, ne]
        rfl
      rw [e1]
      exact ⟨x, z, by rw [← hg, Int.gcd_zero_right], rfl⟩
    · have lt : (x.fmod y).natAbs < y.natAbs := by
        rcases Int.lt_or_gt_of_ne hy with q | q
        · have := @fmod_neg x y q
          omega
        · have := @fmod_pos x y q
          omega
      have e1 : tV (fO gNe (fV 1) (fC (.int 0))) [some (.int x), some (.int y), z] M = some (true, M) := by
        have : (!(y == 0)) = true := by simpa using hy
        simp only [↓ev_V, ↓ev_C, ↓ev_O, ↓ev_U, ↓ev_Nil, ↓ev_Cons, ↓ev_L, ↓ev_If, ↓ev_tV, ↓ev_tTr, ↓ev_tAn, ↓ev_tOr, ↓ev_tNo, ↓ev_NotB, ↓ev_AnB, ↓ev_OrB, ↓ev_Tup, ↓ev_Lst, ↓ev_CP, ↓ev_ML, ↓ev_Sli, ↓ev_oN, ↓ev_oS, ↓ev_Ch, ↓ev_gN, ↓ev_gsNil, ↓ev_gsCons, ↓ev_gT, ↓ev_Seq, ↓ev_Asg, ↓ev_Par, ↓ev_Ret, ↓ev_Drop, ↓ev_sIf, ↓ev_Next, ↓ev_Brk, ↓ev_Cont, ↓ev_RetN, ↓ev_Sub, ↓ev_For, ↓ev_body, ↓ev_iE, ↓ev_iR1, ↓ev_iR2, ↓ev_iZ, ↓ev_iEn, ↓ev_item, ↓ev_Lc, ↓ev_Yes, ↓ev_Par3, ↓ev_As2, ↓ev_As4, ↓ev_CV, ↓ev_Fld, ↓ev_Mk, ↓ev_Mk0, ↓ev_Mt, ↓ev_ForM, ↓ev_bodyM, ↓ev_gTmT, ↓ev_gTmR, ↓ev_AsgM, ↓ev_Star, ↓ev_Dc, ↓ev_iRr, ↓ev_iRv, ↓ev_iZ3, ↓ev_iZ4, ↓ev_LR2, kForM_e, kAsgM_e, kSt1_e, kSt2_e, kSt3_e, seqT, seqRf, popRf, insRf, inE, notInE, kDc_e, kRr_e, kRv_e, revT, revL, vOf_e, kO_e, kO2_e, kU_e, kCons_e, kCons2_e, kL_e, kIf_t, kIf_f, kB_e, kTr_e, kTr2_e, kAn_t, kAn_f, kOr_t, kOr_f, kNo_e, kNotB_e, kAnB_t, kAnB_f, kOrB_t, kOrB_f, kTup_e, kLst_e, kCP_e, kD_e, kML_e, kML2_e, kS1_e, kS2_e, kS3_e, kI_e, kCh1_e, kCh2_e, kCh3_t, kCh3_f, kAsg_e, kNx_e, kRet_e, kDrop_e, kSif_t, kSif_f, kSub1_e, kSub2_e, kSub3_e, kNxM_e, kFor_e, kBody_e, kIE_e, kSrc_e, kR1_e, kR2_e, kR2b_e, kZ1_e, kZ2_e, kEn_e, kMap_e, kMap2_e, kIt1_e, kIt2_t, kIt2_f, kSome_e, kLc_e, kLc2_e, kGc_e, par3_e, kAs2_e, kAs3_e, kAs4_e, kAs5_e, kAs6_e, fnOf2_e, fnV_e, kCV_e, kFld1_e, kFld2_e, kMk_e, kMk2_e, kMt_e, kMt2_e, kMt3_e, gFldE, setFE, metE, insAt_zero, insAt_succ, ob_s, ob_n, then_nx, then_rt, then_bk, then_ct, par2_e, turn_nx, turn_ct, turn_bk, turn_rt, runT_nil, runT_cons, mapT_nil, mapT_cons, finP_nx, finM_rt, finM_nx, addE, subE, negE, cmpE, ixT, truI, truB, at0, at1, at2, at3, List.getElem?_cons_zero, List.getElem?_cons_succ, List.set_cons_zero, List.set_cons_succ, List.length_cons, List.length_nil, Nat.reduceAdd, Nat.reduceLeDiff, if_true, if_false, reduceIte, reduceCtorEq, id_eq, Bool.not_true, Bool.not_false, Bool.false_eq_true, and_self, Int.reduceLE, Int.reduceLT, Int.reduceNeg, decide_true, decide_false, Option.toList_some, Option.toList_none, List.cons_append, List.nil_append, ixRf, tupRf, lenRf, listRf, isLstRf, appRf, revRf, setRf, itemsRf, itemsT, itemsL, zipT, zipRf, allRf, anyRf, sumRf, tupT, slRf, isiE, t2E, lenT, lstAt_zero, lstAt_succ, Option.isSome_some, Nat.reduceLT, Bool.or_true, Bool.or_false, Bool.true_or, Bool.false_or, gIsN, gNotN, D.isNon, wipeD, isBlE, notBlE, min1Rf, kZa_e, kZb_e, kZc_e, kZd_e, kZe_e, kZa4_e, kZb4_e, kLRa_e, kLRb_e, zip3T, zip4T, ne, this]
      have e2 : (sSeq (sAsg (fO gMod (fV 0) (fV 1)) (gN 2)) (sSeq (sAsg (fV 1) (gN 0)) (sAsg (fV 2) (gN 1)))) [some (.int x), some (.int y), z] M = some (.nx [some (.int y), some (.int (x.fmod y)), some (.int (x.fmod y))], M) := by
        simp only [↓ev_V, ↓ev_C, ↓ev_O, ↓ev_U, ↓ev_Nil, ↓ev_Cons, ↓ev_L, ↓ev_If, ↓ev_tV, ↓ev_tTr, ↓ev_tAn, ↓ev_tOr, ↓ev_tNo, ↓ev_NotB, ↓ev_AnB, ↓ev_OrB, ↓ev_Tup, ↓ev_Lst, ↓ev_CP, ↓ev_ML, ↓ev_Sli, ↓ev_oN, ↓ev_oS, ↓ev_Ch, ↓ev_gN, ↓ev_gsNil, ↓ev_gsCons, ↓ev_gT, ↓ev_Seq, ↓ev_Asg, ↓ev_Par, ↓ev_Ret, ↓ev_Drop, ↓ev_sIf, ↓ev_Next, ↓ev_Brk, ↓ev_Cont, ↓ev_RetN, ↓ev_Sub, ↓ev_For, ↓ev_body, ↓ev_iE, ↓ev_iR1, ↓ev_iR2, ↓ev_iZ, ↓ev_iEn, ↓ev_item, ↓ev_Lc, ↓ev_Yes, ↓ev_Par3, ↓ev_As2, ↓ev_As4, ↓ev_CV, ↓ev_Fld, ↓ev_Mk, ↓ev_Mk0, ↓ev_Mt, ↓ev_ForM, ↓ev_bodyM, ↓ev_gTmT, ↓ev_gTmR, ↓ev_AsgM, ↓ev_Star, ↓ev_Dc, ↓ev_iRr, ↓ev_iRv, ↓ev_iZ3, ↓ev_iZ4, ↓ev_LR2, kForM_e, kAsgM_e, kSt1_e, kSt2_e, kSt3_e, seqT, seqRf, popRf, insRf, inE, notInE, kDc_e, kRr_e, kRv_e, revT, revL, vOf_e, kO_e, kO2_e, kU_e, kCons_e, kCons2_e, kL_e, kIf_t, kIf_f, kB_e, kTr_e, kTr2_e, kAn_t, kAn_f, kOr_t, kOr_f, kNo_e, kNotB_e, kAnB_t, kAnB_f, kOrB_t, kOrB_f, kTup_e, kLst_e, kCP_e, kD_e, kML_e, kML2_e, kS1_e, kS2_e, kS3_e, kI_e, kCh1_e, kCh2_e, kCh3_t, kCh3_f, kAsg_e, kNx_e, kRet_e, kDrop_e, kSif_t, kSif_f, kSub1_e, kSub2_e, kSub3_e, kNxM_e, kFor_e, kBody_e, kIE_e, kSrc_e, kR1_e, kR2_e, kR2b_e, kZ1_e, kZ2_e, kEn_e, kMap_e, kMap2_e, kIt1_e, kIt2_t, kIt2_f, kSome_e, kLc_e, kLc2_e, kGc_e, par3_e, kAs2_e, kAs3_e, kAs4_e, kAs5_e, kAs6_e, fnOf2_e, fnV_e, kCV_e, kFld1_e, kFld2_e, kMk_e, kMk2_e, kMt_e, kMt2_e, kMt3_e, gFldE, setFE, metE, insAt_zero, insAt_succ, ob_s, ob_n, then_nx, then_rt, then_bk, then_ct, par2_e, turn_nx, turn_ct, turn_bk, turn_rt, runT_nil, runT_cons, mapT_nil, mapT_cons, finP_nx, finM_rt, finM_nx, addE, subE, negE, cmpE, ixT, truI, truB, at0, at1, at2, at3, List.getElem?_cons_zero, List.getElem?_cons_succ, List.set_cons_zero, List.set_cons_succ, List.length_cons, List.length_nil, Nat.reduceAdd, Nat.reduceLeDiff, if_true, if_false, reduceIte, reduceCtorEq, id_eq, Bool.not_true, Bool.not_false, Bool.false_eq_true, and_self, Int.reduceLE, Int.reduceLT, Int.reduceNeg, decide_true, decide_false, Option.toList_some, Option.toList_none, List.cons_append, List.nil_append, ixRf, tupRf, lenRf, listRf, isLstRf, appRf, revRf, setRf, itemsRf, itemsT, itemsL, zipT, zipRf, allRf, anyRf, sumRf, tupT, slRf, isiE, t2E, lenT, lstAt_zero, lstAt_succ, Option.isSome_some, Nat.reduceLT, Bool.or_true, Bool.or_false, Bool.true_or, Bool.false_or, gIsN, gNotN, D.isNon, wipeD, isBlE, notBlE, min1Rf, kZa_e, kZb_e, kZc_e, kZd_e, kZe_e, kZa4_e, kZb4_e, kLRa_e, kLRb_e, zip3T, zip4T, modE hy]
      obtain ⟨g, z', h1, h2⟩ := g57_loop a b M n y (x.fmod y) (some (.int (x.fmod y))) (by omega) (by rw [gcd_step, hg])
      refine ⟨g, z', h1, ?_⟩
      rw [e1]
      simp only [Option.bind_some, if_true, e2]
      exact h2
theorem gcd57 (a b : Int) : m__law_gcd [.int a, .int b] = some (.int (Int.gcd a b : Int)) := by
  obtain ⟨g, z', h1, h2⟩ := g57_loop a b [] _ a b none (Nat.lt_succ_self _) rfl
  have w := sWhile_of h2
  have ag : (if g < 0 then -g else g) = (Int.gcd a b : Int) := by split <;> omega
  rw [e__law_gcd _ _ rfl]
  unfold b__law_gcd
  simp only [↓ev_V, ↓ev_C, ↓ev_O, ↓ev_U, ↓ev_Nil, ↓ev_Cons, ↓ev_L, ↓ev_If, ↓ev_tV, ↓ev_tTr, ↓ev_tAn, ↓ev_tOr, ↓ev_tNo, ↓ev_NotB, ↓ev_AnB, ↓ev_OrB, ↓ev_Tup, ↓ev_Lst, ↓ev_CP, ↓ev_ML, ↓ev_Sli, ↓ev_oN, ↓ev_oS, ↓ev_Ch, ↓ev_gN, ↓ev_gsNil, ↓ev_gsCons, ↓ev_gT, ↓ev_Seq, ↓ev_Asg, ↓ev_Par, ↓ev_Ret, ↓ev_Drop, ↓ev_sIf, ↓ev_Next, ↓ev_Brk, ↓ev_Cont, ↓ev_RetN, ↓ev_Sub, ↓ev_For, ↓ev_body, ↓ev_iE, ↓ev_iR1, ↓ev_iR2, ↓ev_iZ, ↓ev_iEn, ↓ev_item, ↓ev_Lc, ↓ev_Yes, ↓ev_Par3, ↓ev_As2, ↓ev_As4, ↓ev_CV, ↓ev_Fld, ↓ev_Mk, ↓ev_Mk0, ↓ev_Mt, ↓ev_ForM, ↓ev_bodyM, ↓ev_gTmT, ↓ev_gTmR, ↓ev_AsgM, ↓ev_Star, ↓ev_Dc, ↓ev_iRr, ↓ev_iRv, ↓ev_iZ3, ↓ev_iZ4, ↓ev_LR2, kForM_e, kAsgM_e, kSt1_e, kSt2_e, kSt3_e, seqT, seqRf, popRf, insRf, inE, notInE, kDc_e, kRr_e, kRv_e, revT, revL, vOf_e, kO_e, kO2_e, kU_e, kCons_e, kCons2_e, kL_e, kIf_t, kIf_f, kB_e, kTr_e, kTr2_e, kAn_t, kAn_f, kOr_t, kOr_f, kNo_e, kNotB_e, kAnB_t, kAnB_f, kOrB_t, kOrB_f, kTup_e, kLst_e, kCP_e, kD_e, kML_e, kML2_e, kS1_e, kS2_e, kS3_e, kI_e, kCh1_e, kCh2_e, kCh3_t, kCh3_f, kAsg_e, kNx_e, kRet_e, kDrop_e, kSif_t, kSif_f, kSub1_e, kSub2_e, kSub3_e, kNxM_e, kFor_e, kBody_e, kIE_e, kSrc_e, kR1_e, kR2_e, kR2b_e, kZ1_e, kZ2_e, kEn_e, kMap_e, kMap2_e, kIt1_e, kIt2_t, kIt2_f, kSome_e, kLc_e, kLc2_e, kGc_e, par3_e, kAs2_e, kAs3_e, kAs4_e, kAs5_e, kAs6_e, fnOf2_e, fnV_e, kCV_e, kFld1_e, kFld2_e, kMk_e, kMk2_e, kMt_e, kMt2_e, kMt3_e, gFldE, setFE, metE, insAt_zero, insAt_succ, ob_s, ob_n, then_nx, then_rt, then_bk, then_ct, par2_e, turn_nx, turn_ct, turn_bk, turn_rt, runT_nil, runT_cons, mapT_nil, mapT_cons, finP_nx, finM_rt, finM_nx, addE, subE, negE, cmpE, ixT, truI, truB, at0, at1, at2, at3, List.getElem?_cons_zero, List.getElem?_cons_succ, List.set_cons_zero, List.set_cons_succ, List.length_cons, List.length_nil, Nat.reduceAdd, Nat.reduceLeDiff, if_true, if_false, reduceIte, reduceCtorEq, id_eq, Bool.not_true, Bool.not_false, Bool.false_eq_true, and_self, Int.reduceLE, Int.reduceLT, Int.reduceNeg, decide_true, decide_false, Option.toList_some, Option.toList_none, List.cons_append, List.nil_append, ixRf, tupRf, lenRf, listRf, isLstRf, appRf, revRf, setRf, itemsRf, itemsT, itemsL, zipT, zipRf, allRf, anyRf, sumRf, tupT, slRf, isiE, t2E, lenT, lstAt_zero, lstAt_succ, Option.isSome_some, Nat.reduceLT, Bool.or_true, Bool.or_false, Bool.true_or, Bool.false_or, gIsN, gNotN, D.isNon, wipeD, isBlE, notBlE, min1Rf, kZa_e, kZb_e, kZc_e, kZd_e, kZe_e, kZa4_e, kZb4_e, kLRa_e, kLRb_e, zip3T, zip4T, w, absE, ag]
  exact finP_rt _ _ (lo_int 0 _)
theorem part57 {a b : Int} (hz : b ≠ 0) (h : Bt 9000 b) : m__law_part [.int a, .int b] = some (eF (Rat.divInt a b)) := by
  obtain ⟨hs, hs'⟩ := sg_ne (a := a) hz
  rw [e__law_part _ _ rfl]
  unfold b__law_part
  by_cases hb : b < 0
  · have hsg : -(Int.gcd a b : Int) = sg a b := by
      unfold sg
      rw [if_pos hb]
    simp only [↓ev_V, ↓ev_C, ↓ev_O, ↓ev_U, ↓ev_Nil, ↓ev_Cons, ↓ev_L, ↓ev_If, ↓ev_tV, ↓ev_tTr, ↓ev_tAn, ↓ev_tOr, ↓ev_tNo, ↓ev_NotB, ↓ev_AnB, ↓ev_OrB, ↓ev_Tup, ↓ev_Lst, ↓ev_CP, ↓ev_ML, ↓ev_Sli, ↓ev_oN, ↓ev_oS, ↓ev_Ch, ↓ev_gN, ↓ev_gsNil, ↓ev_gsCons, ↓ev_gT, ↓ev_Seq, ↓ev_Asg, ↓ev_Par, ↓ev_Ret, ↓ev_Drop, ↓ev_sIf, ↓ev_Next, ↓ev_Brk, ↓ev_Cont, ↓ev_RetN, ↓ev_Sub, ↓ev_For, ↓ev_body, ↓ev_iE, ↓ev_iR1, ↓ev_iR2, ↓ev_iZ, ↓ev_iEn, ↓ev_item, ↓ev_Lc, ↓ev_Yes, ↓ev_Par3, ↓ev_As2, ↓ev_As4, ↓ev_CV, ↓ev_Fld, ↓ev_Mk, ↓ev_Mk0, ↓ev_Mt, ↓ev_ForM, ↓ev_bodyM, ↓ev_gTmT, ↓ev_gTmR, ↓ev_AsgM, ↓ev_Star, ↓ev_Dc, ↓ev_iRr, ↓ev_iRv, ↓ev_iZ3, ↓ev_iZ4, ↓ev_LR2, kForM_e, kAsgM_e, kSt1_e, kSt2_e, kSt3_e, seqT, seqRf, popRf, insRf, inE, notInE, kDc_e, kRr_e, kRv_e, revT, revL, vOf_e, kO_e, kO2_e, kU_e, kCons_e, kCons2_e, kL_e, kIf_t, kIf_f, kB_e, kTr_e, kTr2_e, kAn_t, kAn_f, kOr_t, kOr_f, kNo_e, kNotB_e, kAnB_t, kAnB_f, kOrB_t, kOrB_f, kTup_e, kLst_e, kCP_e, kD_e, kML_e, kML2_e, kS1_e, kS2_e, kS3_e, kI_e, kCh1_e, kCh2_e, kCh3_t, kCh3_f, kAsg_e, kNx_e, kRet_e, kDrop_e, kSif_t, kSif_f, kSub1_e, kSub2_e, kSub3_e, kNxM_e, kFor_e, kBody_e, kIE_e, kSrc_e, kR1_e, kR2_e, kR2b_e, kZ1_e, kZ2_e, kEn_e, kMap_e, kMap2_e, kIt1_e, kIt2_t, kIt2_f, kSome_e, kLc_e, kLc2_e, kGc_e, par3_e, kAs2_e, kAs3_e, kAs4_e, kAs5_e, kAs6_e, fnOf2_e, fnV_e, kCV_e, kFld1_e, kFld2_e, kMk_e, kMk2_e, kMt_e, kMt2_e, kMt3_e, gFldE, setFE, metE, insAt_zero, insAt_succ, ob_s, ob_n, then_nx, then_rt, then_bk, then_ct, par2_e, turn_nx, turn_ct, turn_bk, turn_rt, runT_nil, runT_cons, mapT_nil, mapT_cons, finP_nx, finM_rt, finM_nx, addE, subE, negE, cmpE, ixT, truI, truB, at0, at1, at2, at3, List.getElem?_cons_zero, List.getElem?_cons_succ, List.set_cons_zero, List.set_cons_succ, List.length_cons, List.length_nil, Nat.reduceAdd, Nat.reduceLeDiff, if_true, if_false, reduceIte, reduceCtorEq, id_eq, Bool.not_true, Bool.not_false, Bool.false_eq_true, and_self, Int.reduceLE, Int.reduceLT, Int.reduceNeg, decide_true, decide_false, Option.toList_some, Option.toList_none, List.cons_append, List.nil_append, ixRf, tupRf, lenRf, listRf, isLstRf, appRf, revRf, setRf, itemsRf, itemsT, itemsL, zipT, zipRf, allRf, anyRf, sumRf, tupT, slRf, isiE, t2E, lenT, lstAt_zero, lstAt_succ, Option.isSome_some, Nat.reduceLT, Bool.or_true, Bool.or_false, Bool.true_or, Bool.false_or, gIsN, gNotN, D.isNon, wipeD, isBlE, notBlE, min1Rf, kZa_e, kZb_e, kZc_e, kZd_e, kZe_e, kZa4_e, kZb4_e, kLRa_e, kLRb_e, zip3T, zip4T, gcd57, hb, negE, hsg, fdE hs (h.le hs')]
    rw [sg_num hz, sg_den hz]
    exact finP_rt _ _ (lo_eF 0 _)
  · have hsg : (Int.gcd a b : Int) = sg a b := by
      unfold sg
      rw [if_neg hb]
    simp only [↓ev_V, ↓ev_C, ↓ev_O, ↓ev_U, ↓ev_Nil, ↓ev_Cons, ↓ev_L, ↓ev_If, ↓ev_tV, ↓ev_tTr, ↓ev_tAn, ↓ev_tOr, ↓ev_tNo, ↓ev_NotB, ↓ev_AnB, ↓ev_OrB, ↓ev_Tup, ↓ev_Lst, ↓ev_CP, ↓ev_ML, ↓ev_Sli, ↓ev_oN, ↓ev_oS, ↓ev_Ch, ↓ev_gN, ↓ev_gsNil, ↓ev_gsCons, ↓ev_gT, ↓ev_Seq, ↓ev_Asg, ↓ev_Par, ↓ev_Ret, ↓ev_Drop, ↓ev_sIf, ↓ev_Next, ↓ev_Brk, ↓ev_Cont, ↓ev_RetN, ↓ev_Sub, ↓ev_For, ↓ev_body, ↓ev_iE, ↓ev_iR1, ↓ev_iR2, ↓ev_iZ, ↓ev_iEn, ↓ev_item, ↓ev_Lc, ↓ev_Yes, ↓ev_Par3, ↓ev_As2, ↓ev_As4, ↓ev_CV, ↓ev_Fld, ↓ev_Mk, ↓ev_Mk0, ↓ev_Mt, ↓ev_ForM, ↓ev_bodyM, ↓ev_gTmT, ↓ev_gTmR, ↓ev_AsgM, ↓ev_Star, ↓ev_Dc, ↓ev_iRr, ↓ev_iRv, ↓ev_iZ3, ↓ev_iZ4, ↓ev_LR2, kForM_e, kAsgM_e, kSt1_e, kSt2_e, kSt3_e, seqT, seqRf, popRf, insRf, inE, notInE, kDc_e, kRr_e, kRv_e, revT, revL, vOf_e, kO_e, kO2_e, kU_e, kCons_e, kCons2_e, kL_e, kIf_t, kIf_f, kB_e, kTr_e, kTr2_e, kAn_t, kAn_f, kOr_t, kOr_f, kNo_e, kNotB_e, kAnB_t, kAnB_f, kOrB_t, kOrB_f, kTup_e, kLst_e, kCP_e, kD_e, kML_e, kML2_e, kS1_e, kS2_e, kS3_e, kI_e, kCh1_e, kCh2_e, kCh3_t, kCh3_f, kAsg_e, kNx_e, kRet_e, kDrop_e, kSif_t, kSif_f, kSub1_e, kSub2_e, kSub3_e, kNxM_e, kFor_e, kBody_e, kIE_e, kSrc_e, kR1_e, kR2_e, kR2b_e, kZ1_e, kZ2_e, kEn_e, kMap_e, kMap2_e, kIt1_e, kIt2_t, kIt2_f, kSome_e, kLc_e, kLc2_e, kGc_e, par3_e, kAs2_e, kAs3_e, kAs4_e, kAs5_e, kAs6_e, fnOf2_e, fnV_e, kCV_e, kFld1_e, kFld2_e, kMk_e, kMk2_e, kMt_e, kMt2_e, kMt3_e, gFldE, setFE, metE, insAt_zero, insAt_succ, ob_s, ob_n, then_nx, then_rt, then_bk, then_ct, par2_e, turn_nx, turn_ct, turn_bk, turn_rt, runT_nil, runT_cons, mapT_nil, mapT_cons, finP_nx, finM_rt, finM_nx, addE, subE, negE, cmpE, ixT, truI, truB, at0, at1, at2, at3, List.getElem?_cons_zero, List.getElem?_cons_succ, List.set_cons_zero, List.set_cons_succ, List.length_cons, List.length_nil, Nat.reduceAdd, Nat.reduceLeDiff, if_true, if_false, reduceIte, reduceCtorEq, id_eq, Bool.not_true, Bool.not_false, Bool.false_eq_true, and_self, Int.reduceLE, Int.reduceLT, Int.reduceNeg, decide_true, decide_false, Option.toList_some, Option.toList_none, List.cons_append, List.nil_append, ixRf, tupRf, lenRf, listRf, isLstRf, appRf, revRf, setRf, itemsRf, itemsT, itemsL, zipT, zipRf, allRf, anyRf, sumRf, tupT, slRf, isiE, t2E, lenT, lstAt_zero, lstAt_succ, Option.isSome_some, Nat.reduceLT, Bool.or_true, Bool.or_false, Bool.true_or, Bool.false_or, gIsN, gNotN, D.isNon, wipeD, isBlE, notBlE, min1Rf, kZa_e, kZb_e, kZc_e, kZd_e, kZe_e, kZa4_e, kZb4_e, kLRa_e, kLRb_e, zip3T, zip4T, gcd57, hb, hsg, fdE hs (h.le hs')]
    rw [sg_num hz, sg_den hz]
    exact finP_rt _ _ (lo_eF 0 _)
theorem lplus57 {m n : Nat} {q r : Rat} (hq : Rb m q) (hr : Rb n r) (h : m + n ≤ 9000) : m__law_plus [eF q, eF r] = some (eF (q + r)) := by
  obtain ⟨h1, h2, h3, _, _, h4, _⟩ := two_rb hq hr h
  rw [e__law_plus _ _ rfl]
  unfold b__law_plus
  simp only [↓ev_V, ↓ev_C, ↓ev_O, ↓ev_U, ↓ev_Nil, ↓ev_Cons, ↓ev_L, ↓ev_If, ↓ev_tV, ↓ev_tTr, ↓ev_tAn, ↓ev_tOr, ↓ev_tNo, ↓ev_NotB, ↓ev_AnB, ↓ev_OrB, ↓ev_Tup, ↓ev_Lst, ↓ev_CP, ↓ev_ML, ↓ev_Sli, ↓ev_oN, ↓ev_oS, ↓ev_Ch, ↓ev_gN, ↓ev_gsNil, ↓ev_gsCons, ↓ev_gT, ↓ev_Seq, ↓ev_Asg, ↓ev_Par, ↓ev_Ret, ↓ev_Drop, ↓ev_sIf, ↓ev_Next, ↓ev_Brk, ↓ev_Cont, ↓ev_RetN, ↓ev_Sub, ↓ev_For, ↓ev_body, ↓ev_iE, ↓ev_iR1, ↓ev_iR2, ↓ev_iZ, ↓ev_iEn, ↓ev_item, ↓ev_Lc, ↓ev_Yes, ↓ev_Par3, ↓ev_As2, ↓ev_As4, ↓ev_CV, ↓ev_Fld, ↓ev_Mk, ↓ev_Mk0, ↓ev_Mt, ↓ev_ForM, ↓ev_bodyM, ↓ev_gTmT, ↓ev_gTmR, ↓ev_AsgM, ↓ev_Star, ↓ev_Dc, ↓ev_iRr, ↓ev_iRv, ↓ev_iZ3, ↓ev_iZ4, ↓ev_LR2, kForM_e, kAsgM_e, kSt1_e, kSt2_e, kSt3_e, seqT, seqRf, popRf, insRf, inE, notInE, kDc_e, kRr_e, kRv_e, revT, revL, vOf_e, kO_e, kO2_e, kU_e, kCons_e, kCons2_e, kL_e, kIf_t, kIf_f, kB_e, kTr_e, kTr2_e, kAn_t, kAn_f, kOr_t, kOr_f, kNo_e, kNotB_e, kAnB_t, kAnB_f, kOrB_t, kOrB_f, kTup_e, kLst_e, kCP_e, kD_e, kML_e, kML2_e, kS1_e, kS2_e, kS3_e, kI_e, kCh1_e, kCh2_e, kCh3_t, kCh3_f, kAsg_e, kNx_e, kRet_e, kDrop_e, kSif_t, kSif_f, kSub1_e, kSub2_e, kSub3_e, kNxM_e, kFor_e, kBody_e, kIE_e, kSrc_e, kR1_e, kR2_e, kR2b_e, kZ1_e, kZ2_e, kEn_e, kMap_e, kMap2_e, kIt1_e, kIt2_t, kIt2_f, kSome_e, kLc_e, kLc2_e, kGc_e, par3_e, kAs2_e, kAs3_e, kAs4_e, kAs5_e, kAs6_e, fnOf2_e, fnV_e, kCV_e, kFld1_e, kFld2_e, kMk_e, kMk2_e, kMt_e, kMt2_e, kMt3_e, gFldE, setFE, metE, insAt_zero, insAt_succ, ob_s, ob_n, then_nx, then_rt, then_bk, then_ct, par2_e, turn_nx, turn_ct, turn_bk, turn_rt, runT_nil, runT_cons, mapT_nil, mapT_cons, finP_nx, finM_rt, finM_nx, addE, subE, negE, cmpE, ixT, truI, truB, at0, at1, at2, at3, List.getElem?_cons_zero, List.getElem?_cons_succ, List.set_cons_zero, List.set_cons_succ, List.length_cons, List.length_nil, Nat.reduceAdd, Nat.reduceLeDiff, if_true, if_false, reduceIte, reduceCtorEq, id_eq, Bool.not_true, Bool.not_false, Bool.false_eq_true, and_self, Int.reduceLE, Int.reduceLT, Int.reduceNeg, decide_true, decide_false, Option.toList_some, Option.toList_none, List.cons_append, List.nil_append, ixRf, tupRf, lenRf, listRf, isLstRf, appRf, revRf, setRf, itemsRf, itemsT, itemsL, zipT, zipRf, allRf, anyRf, sumRf, tupT, slRf, isiE, t2E, lenT, lstAt_zero, lstAt_succ, Option.isSome_some, Nat.reduceLT, Bool.or_true, Bool.or_false, Bool.true_or, Bool.false_or, gIsN, gNotN, D.isNon, wipeD, isBlE, notBlE, min1Rf, kZa_e, kZb_e, kZc_e, kZd_e, kZe_e, kZa4_e, kZb4_e, kLRa_e, kLRb_e, zip3T, zip4T, ix_eF0, ix_eF1, mulE h1, mulE h2, mulE h3, part57 (Int.mul_ne_zero (den_ne q) (den_ne r)) h4, rat_sum]
  exact finP_rt _ _ (lo_eF 0 _)
theorem lless57 {m n : Nat} {q r : Rat} (hq : Rb m q) (hr : Rb n r) (h : m + n ≤ 9000) : m__law_less [eF q, eF r] = some (eF (q - r)) := by
  obtain ⟨h1, h2, h3, _, _, h4, _⟩ := two_rb hq hr h
  rw [e__law_less _ _ rfl]
  unfold b__law_less
  simp only [↓ev_V, ↓ev_C, ↓ev_O, ↓ev_U, ↓ev_Nil, ↓ev_Cons, ↓ev_L, ↓ev_If, ↓ev_tV, ↓ev_tTr, ↓ev_tAn, ↓ev_tOr, ↓ev_tNo, ↓ev_NotB, ↓ev_AnB, ↓ev_OrB, ↓ev_Tup, ↓ev_Lst, ↓ev_CP, ↓ev_ML, ↓ev_Sli, ↓ev_oN, ↓ev_oS, ↓ev_Ch, ↓ev_gN, ↓ev_gsNil, ↓ev_gsCons, ↓ev_gT, ↓ev_Seq, ↓ev_Asg, ↓ev_Par, ↓ev_Ret, ↓ev_Drop, ↓ev_sIf, ↓ev_Next, ↓ev_Brk, ↓ev_Cont, ↓ev_RetN, ↓ev_Sub, ↓ev_For, ↓ev_body, ↓ev_iE, ↓ev_iR1, ↓ev_iR2, ↓ev_iZ, ↓ev_iEn, ↓ev_item, ↓ev_Lc, ↓ev_Yes, ↓ev_Par3, ↓ev_As2, ↓ev_As4, ↓ev_CV, ↓ev_Fld, ↓ev_Mk, ↓ev_Mk0, ↓ev_Mt, ↓ev_ForM, ↓ev_bodyM, ↓ev_gTmT, ↓ev_gTmR, ↓ev_AsgM, ↓ev_Star, ↓ev_Dc, ↓ev_iRr, ↓ev_iRv, ↓ev_iZ3, ↓ev_iZ4, ↓ev_LR2, kForM_e, kAsgM_e, kSt1_e, kSt2_e, kSt3_e, seqT, seqRf, popRf, insRf, inE, notInE, kDc_e, kRr_e, kRv_e, revT, revL, vOf_e, kO_e, kO2_e, kU_e, kCons_e, kCons2_e, kL_e, kIf_t, kIf_f, kB_e, kTr_e, kTr2_e, kAn_t, kAn_f, kOr_t, kOr_f, kNo_e, kNotB_e, kAnB_t, kAnB_f, kOrB_t, kOrB_f, kTup_e, kLst_e, kCP_e, kD_e, kML_e, kML2_e, kS1_e, kS2_e, kS3_e, kI_e, kCh1_e, kCh2_e, kCh3_t, kCh3_f, kAsg_e, kNx_e, kRet_e, kDrop_e, kSif_t, kSif_f, kSub1_e, kSub2_e, kSub3_e, kNxM_e, kFor_e, kBody_e, kIE_e, kSrc_e, kR1_e, kR2_e, kR2b_e, kZ1_e, kZ2_e, kEn_e, kMap_e, kMap2_e, kIt1_e, kIt2_t, kIt2_f, kSome_e, kLc_e, kLc2_e, kGc_e, par3_e, kAs2_e, kAs3_e, kAs4_e, kAs5_e, kAs6_e, fnOf2_e, fnV_e, kCV_e, kFld1_e, kFld2_e, kMk_e, kMk2_e, kMt_e, kMt2_e, kMt3_e, gFldE, setFE, metE, insAt_zero, insAt_succ, ob_s, ob_n, then_nx, then_rt, then_bk, then_ct, par2_e, turn_nx, turn_ct, turn_bk, turn_rt, runT_nil, runT_cons, mapT_nil, mapT_cons, finP_nx, finM_rt, finM_nx, addE, subE, negE, cmpE, ixT, truI, truB, at0, at1, at2, at3, List.getElem?_cons_zero, List.getElem?_cons_succ, List.set_cons_zero, List.set_cons_succ, List.length_cons, List.length_nil, Nat.reduceAdd, Nat.reduceLeDiff, if_true, if_false, reduceIte, reduceCtorEq, id_eq, Bool.not_true, Bool.not_false, Bool.false_eq_true, and_self, Int.reduceLE, Int.reduceLT, Int.reduceNeg, decide_true, decide_false, Option.toList_some, Option.toList_none, List.cons_append, List.nil_append, ixRf, tupRf, lenRf, listRf, isLstRf, appRf, revRf, setRf, itemsRf, itemsT, itemsL, zipT, zipRf, allRf, anyRf, sumRf, tupT, slRf, isiE, t2E, lenT, lstAt_zero, lstAt_succ, Option.isSome_some, Nat.reduceLT, Bool.or_true, Bool.or_false, Bool.true_or, Bool.false_or, gIsN, gNotN, D.isNon, wipeD, isBlE, notBlE, min1Rf, kZa_e, kZb_e, kZc_e, kZd_e, kZe_e, kZa4_e, kZb4_e, kLRa_e, kLRb_e, zip3T, zip4T, ix_eF0, ix_eF1, mulE h1, mulE h2, mulE h3, part57 (Int.mul_ne_zero (den_ne q) (den_ne r)) h4, rat_less]
  exact finP_rt _ _ (lo_eF 0 _)
theorem ltimes57 {m n : Nat} {q r : Rat} (hq : Rb m q) (hr : Rb n r) (h : m + n ≤ 9000) : m__law_times [eF q, eF r] = some (eF (q * r)) := by
  obtain ⟨_, _, h3, h1, _, h4, _⟩ := two_rb hq hr h
  rw [e__law_times _ _ rfl]
  unfold b__law_times
  simp only [↓ev_V, ↓ev_C, ↓ev_O, ↓ev_U, ↓ev_Nil, ↓ev_Cons, ↓ev_L, ↓ev_If, ↓ev_tV, ↓ev_tTr, ↓ev_tAn, ↓ev_tOr, ↓ev_tNo, ↓ev_NotB, ↓ev_AnB, ↓ev_OrB, ↓ev_Tup, ↓ev_Lst, ↓ev_CP, ↓ev_ML, ↓ev_Sli, ↓ev_oN, ↓ev_oS, ↓ev_Ch, ↓ev_gN, ↓ev_gsNil, ↓ev_gsCons, ↓ev_gT, ↓ev_Seq, ↓ev_Asg, ↓ev_Par, ↓ev_Ret, ↓ev_Drop, ↓ev_sIf, ↓ev_Next, ↓ev_Brk, ↓ev_Cont, ↓ev_RetN, ↓ev_Sub, ↓ev_For, ↓ev_body, ↓ev_iE, ↓ev_iR1, ↓ev_iR2, ↓ev_iZ, ↓ev_iEn, ↓ev_item, ↓ev_Lc, ↓ev_Yes, ↓ev_Par3, ↓ev_As2, ↓ev_As4, ↓ev_CV, ↓ev_Fld, ↓ev_Mk, ↓ev_Mk0, ↓ev_Mt, ↓ev_ForM, ↓ev_bodyM, ↓ev_gTmT, ↓ev_gTmR, ↓ev_AsgM, ↓ev_Star, ↓ev_Dc, ↓ev_iRr, ↓ev_iRv, ↓ev_iZ3, ↓ev_iZ4, ↓ev_LR2, kForM_e, kAsgM_e, kSt1_e, kSt2_e, kSt3_e, seqT, seqRf, popRf, insRf, inE, notInE, kDc_e, kRr_e, kRv_e, revT, revL, vOf_e, kO_e, kO2_e, kU_e, kCons_e, kCons2_e, kL_e, kIf_t, kIf_f, kB_e, kTr_e, kTr2_e, kAn_t, kAn_f, kOr_t, kOr_f, kNo_e, kNotB_e, kAnB_t, kAnB_f, kOrB_t, kOrB_f, kTup_e, kLst_e, kCP_e, kD_e, kML_e, kML2_e, kS1_e, kS2_e, kS3_e, kI_e, kCh1_e, kCh2_e, kCh3_t, kCh3_f, kAsg_e, kNx_e, kRet_e, kDrop_e, kSif_t, kSif_f, kSub1_e, kSub2_e, kSub3_e, kNxM_e, kFor_e, kBody_e, kIE_e, kSrc_e, kR1_e, kR2_e, kR2b_e, kZ1_e, kZ2_e, kEn_e, kMap_e, kMap2_e, kIt1_e, kIt2_t, kIt2_f, kSome_e, kLc_e, kLc2_e, kGc_e, par3_e, kAs2_e, kAs3_e, kAs4_e, kAs5_e, kAs6_e, fnOf2_e, fnV_e, kCV_e, kFld1_e, kFld2_e, kMk_e, kMk2_e, kMt_e, kMt2_e, kMt3_e, gFldE, setFE, metE, insAt_zero, insAt_succ, ob_s, ob_n, then_nx, then_rt, then_bk, then_ct, par2_e, turn_nx, turn_ct, turn_bk, turn_rt, runT_nil, runT_cons, mapT_nil, mapT_cons, finP_nx, finM_rt, finM_nx, addE, subE, negE, cmpE, ixT, truI, truB, at0, at1, at2, at3, List.getElem?_cons_zero, List.getElem?_cons_succ, List.set_cons_zero, List.set_cons_succ, List.length_cons, List.length_nil, Nat.reduceAdd, Nat.reduceLeDiff, if_true, if_false, reduceIte, reduceCtorEq, id_eq, Bool.not_true, Bool.not_false, Bool.false_eq_true, and_self, Int.reduceLE, Int.reduceLT, Int.reduceNeg, decide_true, decide_false, Option.toList_some, Option.toList_none, List.cons_append, List.nil_append, ixRf, tupRf, lenRf, listRf, isLstRf, appRf, revRf, setRf, itemsRf, itemsT, itemsL, zipT, zipRf, allRf, anyRf, sumRf, tupT, slRf, isiE, t2E, lenT, lstAt_zero, lstAt_succ, Option.isSome_some, Nat.reduceLT, Bool.or_true, Bool.or_false, Bool.true_or, Bool.false_or, gIsN, gNotN, D.isNon, wipeD, isBlE, notBlE, min1Rf, kZa_e, kZb_e, kZc_e, kZd_e, kZe_e, kZa4_e, kZb4_e, kLRa_e, kLRb_e, zip3T, zip4T, ix_eF0, ix_eF1, mulE h1, mulE h3, part57 (Int.mul_ne_zero (den_ne q) (den_ne r)) h4, rat_prod]
  exact finP_rt _ _ (lo_eF 0 _)
theorem lthrough57 {m n : Nat} {q r : Rat} (hq : Rb m q) (hr : Rb n r) (h : m + n ≤ 9000) (hz : r ≠ 0) : m__law_through [eF q, eF r] = some (eF (q / r)) := by
  obtain ⟨h1, _, _, _, h3, _, h4⟩ := two_rb hq hr h
  rw [e__law_through _ _ rfl]
  unfold b__law_through
  simp only [↓ev_V, ↓ev_C, ↓ev_O, ↓ev_U, ↓ev_Nil, ↓ev_Cons, ↓ev_L, ↓ev_If, ↓ev_tV, ↓ev_tTr, ↓ev_tAn, ↓ev_tOr, ↓ev_tNo, ↓ev_NotB, ↓ev_AnB, ↓ev_OrB, ↓ev_Tup, ↓ev_Lst, ↓ev_CP, ↓ev_ML, ↓ev_Sli, ↓ev_oN, ↓ev_oS, ↓ev_Ch, ↓ev_gN, ↓ev_gsNil, ↓ev_gsCons, ↓ev_gT, ↓ev_Seq, ↓ev_Asg, ↓ev_Par, ↓ev_Ret, ↓ev_Drop, ↓ev_sIf, ↓ev_Next, ↓ev_Brk, ↓ev_Cont, ↓ev_RetN, ↓ev_Sub, ↓ev_For, ↓ev_body, ↓ev_iE, ↓ev_iR1, ↓ev_iR2, ↓ev_iZ, ↓ev_iEn, ↓ev_item, ↓ev_Lc, ↓ev_Yes, ↓ev_Par3, ↓ev_As2, ↓ev_As4, ↓ev_CV, ↓ev_Fld, ↓ev_Mk, ↓ev_Mk0, ↓ev_Mt, ↓ev_ForM, ↓ev_bodyM, ↓ev_gTmT, ↓ev_gTmR, ↓ev_AsgM, ↓ev_Star, ↓ev_Dc, ↓ev_iRr, ↓ev_iRv, ↓ev_iZ3, ↓ev_iZ4, ↓ev_LR2, kForM_e, kAsgM_e, kSt1_e, kSt2_e, kSt3_e, seqT, seqRf, popRf, insRf, inE, notInE, kDc_e, kRr_e, kRv_e, revT, revL, vOf_e, kO_e, kO2_e, kU_e, kCons_e, kCons2_e, kL_e, kIf_t, kIf_f, kB_e, kTr_e, kTr2_e, kAn_t, kAn_f, kOr_t, kOr_f, kNo_e, kNotB_e, kAnB_t, kAnB_f, kOrB_t, kOrB_f, kTup_e, kLst_e, kCP_e, kD_e, kML_e, kML2_e, kS1_e, kS2_e, kS3_e, kI_e, kCh1_e, kCh2_e, kCh3_t, kCh3_f, kAsg_e, kNx_e, kRet_e, kDrop_e, kSif_t, kSif_f, kSub1_e, kSub2_e, kSub3_e, kNxM_e, kFor_e, kBody_e, kIE_e, kSrc_e, kR1_e, kR2_e, kR2b_e, kZ1_e, kZ2_e, kEn_e, kMap_e, kMap2_e, kIt1_e, kIt2_t, kIt2_f, kSome_e, kLc_e, kLc2_e, kGc_e, par3_e, kAs2_e, kAs3_e, kAs4_e, kAs5_e, kAs6_e, fnOf2_e, fnV_e, kCV_e, kFld1_e, kFld2_e, kMk_e, kMk2_e, kMt_e, kMt2_e, kMt3_e, gFldE, setFE, metE, insAt_zero, insAt_succ, ob_s, ob_n, then_nx, then_rt, then_bk, then_ct, par2_e, turn_nx, turn_ct, turn_bk, turn_rt, runT_nil, runT_cons, mapT_nil, mapT_cons, finP_nx, finM_rt, finM_nx, addE, subE, negE, cmpE, ixT, truI, truB, at0, at1, at2, at3, List.getElem?_cons_zero, List.getElem?_cons_succ, List.set_cons_zero, List.set_cons_succ, List.length_cons, List.length_nil, Nat.reduceAdd, Nat.reduceLeDiff, if_true, if_false, reduceIte, reduceCtorEq, id_eq, Bool.not_true, Bool.not_false, Bool.false_eq_true, and_self, Int.reduceLE, Int.reduceLT, Int.reduceNeg, decide_true, decide_false, Option.toList_some, Option.toList_none, List.cons_append, List.nil_append, ixRf, tupRf, lenRf, listRf, isLstRf, appRf, revRf, setRf, itemsRf, itemsT, itemsL, zipT, zipRf, allRf, anyRf, sumRf, tupT, slRf, isiE, t2E, lenT, lstAt_zero, lstAt_succ, Option.isSome_some, Nat.reduceLT, Bool.or_true, Bool.or_false, Bool.true_or, Bool.false_or, gIsN, gNotN, D.isNon, wipeD, isBlE, notBlE, min1Rf, kZa_e, kZb_e, kZc_e, kZd_e, kZe_e, kZa4_e, kZb4_e, kLRa_e, kLRb_e, zip3T, zip4T, ix_eF0, ix_eF1, mulE h1, mulE h3, part57 (Int.mul_ne_zero (den_ne q) (num_ne hz)) h4, rat_quot]
  exact finP_rt _ _ (lo_eF 0 _)

/-! ### cells that hold nothing high (as in x3 and put) -/
theorem all_app {n : Nat} {A B : Mem} (h : A.all (Cell.lo n) = true) (k : B.all (Cell.lo n) = true) : (A ++ B).all (Cell.lo n) = true := by
  rw [List.all_append, h, k]
  rfl
theorem all_up {m n : Nat} {R : Mem} (h : R.all (Cell.lo m) = true) (hn : m ≤ n) : R.all (Cell.lo n) = true := by
  rw [List.all_eq_true] at h ⊢
  exact fun c hc => Cell.lo_le hn (h c hc)
theorem los_map {α : Type} (n : Nat) (f : α → D) : ∀ l : List α, (∀ a ∈ l, D.lo n (f a) = true) → D.los n (l.map f) = true
  | [], _ => rfl
  | a :: l, h => by
    rw [List.map_cons, los_cons, h a List.mem_cons_self, los_map n f l fun b hb => h b (List.mem_cons_of_mem _ hb)]
    rfl

/-! ### the deck of k57: great numbers taken apart first, then a blend -/
structure D57 where
  bg : List Int
  p : Nat
  c : Nat
def M57 (B : Mem) (ones : List Int) (d : D57) : Mem := B ++ [.lst (ones.map D.int), .lst (d.bg.map D.int), .lst [.rf B.length, .rf (B.length + 1), .int (d.p : Nat), .int (d.c : Nat)]]
section
variable {B : Mem} {ones : List Int}
theorem M57_len (d : D57) : (M57 B ones d).length = B.length + 3 := by simp [M57]
theorem M57_0 (d : D57) (X : Mem) : lstAt (M57 B ones d ++ X) B.length = some (ones.map D.int) := lstAt_of (by simp [M57])
theorem M57_1 (d : D57) (X : Mem) : lstAt (M57 B ones d ++ X) (B.length + 1) = some (d.bg.map D.int) := lstAt_of (by simp [M57])
theorem M57_2 (d : D57) (X : Mem) : lstAt (M57 B ones d ++ X) (B.length + 2) = some [.rf B.length, .rf (B.length + 1), .int (d.p : Nat), .int (d.c : Nat)] := lstAt_of (by simp [M57])
theorem M57_s1 (d : D57) (X : Mem) (bg : List Int) : (M57 B ones d ++ X).set (B.length + 1) (.lst (bg.map D.int)) = M57 B ones { d with bg := bg } ++ X := by simp [M57]
theorem M57_s2 (d : D57) (X : Mem) (p c : Nat) : (M57 B ones d ++ X).set (B.length + 2) (.lst [.rf B.length, .rf (B.length + 1), .int (p : Nat), .int (c : Nat)]) = M57 B ones { d with p := p, c := c } ++ X := by simp [M57]
end
def D57.Ok (b : Nat) (d : D57) : Prop := (∀ x ∈ d.bg, 0 ≤ x) ∧ d.bg.length ≤ 1000 ∧ d.c + b ≤ 100000
/- the loop of take: a great number is taken from, or none is left -/
theorem tk57_loop {B : Mem} {ones : List Int} {many : Int} (hm : 0 < many) (hm2 : many < 2 ^ 100) (X : Mem) : ∀ (n : Nat) (d : D57) (z : Option D), d.bg.length - d.p < n → (∀ x ∈ d.bg, 0 ≤ x) → d.bg.length ≤ 1000 →
    (∃ p z', d.bg.length ≤ p ∧ wl (tV (fO gLt (fO gIx (fV 0) (fC (.int 2))) (fL bLen (fCons (fO gIx (fV 0) (fC (.int 1))) fNil)))) (sSeq (sAsg (fO gIx (fO gIx (fV 0) (fC (.int 1))) (fO gIx (fV 0) (fC (.int 2)))) (gN 2))
    (sSeq (sIf (tV (fO gGt (fV 2) (fC (.int 0)))) (sSeq (sSub (fO gFd (fV 2) (fV 1)) (fO gIx (fV 0) (fC (.int 1))) (fO gIx (fV 0) (fC (.int 2))))
    (sRet (fO gMod (fV 2) (fV 1)))) sNext)
    (sSub (fO gAdd (fO gIx (fV 0) (fC (.int 2))) (fC (.int 1))) (fV 0) (fC (.int 2))))) n [some (.rf (B.length + 2)), some (.int many), z] (M57 B ones d ++ X) = some (.nx [some (.rf (B.length + 2)), some (.int many), z'], M57 B ones { d with p := p } ++ X)) ∨
    ∃ p bg v, (∀ x ∈ bg, 0 ≤ x) ∧ bg.length = d.bg.length ∧ 0 ≤ v ∧ v < many ∧ wl (tV (fO gLt (fO gIx (fV 0) (fC (.int 2))) (fL bLen (fCons (fO gIx (fV 0) (fC (.int 1))) fNil)))) (sSeq (sAsg (fO gIx (fO gIx (fV 0) (fC (.int 1))) (fO gIx (fV 0) (fC (.int 2)))) (gN 2))
    (sSeq (sIf (tV (fO gGt (fV 2) (fC (.int 0)))) (sSeq (sSub (fO gFd (fV 2) (fV 1)) (fO gIx (fV 0) (fC (.int 1))) (fO gIx (fV 0) (fC (.int 2))))
    (sRet (fO gMod (fV 2) (fV 1)))) sNext)
    (sSub (fO gAdd (fO gIx (fV 0) (fC (.int 2))) (fC (.int 1))) (fV 0) (fC (.int 2))))) n [some (.rf (B.length + 2)), some (.int many), z] (M57 B ones d ++ X) = some (.rt (.int v), M57 B ones { d with p := p, bg := bg } ++ X)
  | 0, _, _, h, _, _ => absurd h (by omega)
  | n + 1, d, z, h, h0, hl => by
    unfold wl
    have d2 : atI [D.rf B.length, .rf (B.length + 1), .int (d.p : Nat), .int (d.c : Nat)] 2 = some (.int (d.p : Nat)) := rfl
    have d1 : atI [D.rf B.length, .rf (B.length + 1), .int (d.p : Nat), .int (d.c : Nat)] 1 = some (.rf (B.length + 1)) := rfl
    have hlen : ((d.bg.map D.int).length : Int) = (d.bg.length : Nat) := by simp
    by_cases c : d.p < d.bg.length
    · have e1 : tV (fO gLt (fO gIx (fV 0) (fC (.int 2))) (fL bLen (fCons (fO gIx (fV 0) (fC (.int 1))) fNil))) [some (.rf (B.length + 2)), some (.int many), z] (M57 B ones d ++ X) = some (true, M57 B ones d ++ X) := by
        simp only [↓ev_V, ↓ev_C, ↓ev_O, ↓ev_U, ↓ev_Nil, ↓ev_Cons, ↓ev_L, ↓ev_If, ↓ev_tV, ↓ev_tTr, ↓ev_tAn, ↓ev_tOr, ↓ev_tNo, ↓ev_NotB, ↓ev_AnB, ↓ev_OrB, ↓ev_Tup, ↓ev_Lst, ↓ev_CP, ↓ev_ML, ↓ev_Sli, ↓ev_oN, ↓ev_oS, ↓ev_Ch, ↓ev_gN, ↓ev_gsNil, ↓ev_gsCons, ↓ev_gT, ↓ev_Seq, ↓ev_Asg, ↓ev_Par, ↓ev_Ret, ↓ev_Drop, ↓ev_sIf, ↓ev_Next, ↓ev_Brk, ↓ev_Cont, ↓ev_RetN, ↓ev_Sub, ↓ev_For, ↓ev_body, ↓ev_iE, ↓ev_iR1, ↓ev_iR2, ↓ev_iZ, ↓ev_iEn, ↓ev_item, ↓ev_Lc, ↓ev_Yes, ↓ev_Par3, ↓ev_As2, ↓ev_As4, ↓ev_CV, ↓ev_Fld, ↓ev_Mk, ↓ev_Mk0, ↓ev_Mt, ↓ev_ForM, ↓ev_bodyM, ↓ev_gTmT, ↓ev_gTmR, ↓ev_AsgM, ↓ev_Star, ↓ev_Dc, ↓ev_iRr, ↓ev_iRv, ↓ev_iZ3, ↓ev_iZ4, ↓ev_LR2, kForM_e, kAsgM_e, kSt1_e, kSt2_e, kSt3_e, seqT, seqRf, popRf, insRf, inE, notInE, kDc_e, kRr_e, kRv_e, revT, revL, vOf_e, kO_e, kO2_e, kU_e, kCons_e, kCons2_e, kL_e, kIf_t, kIf_f, kB_e, kTr_e, kTr2_e, kAn_t, kAn_f, kOr_t, kOr_f, kNo_e, kNotB_e, kAnB_t, kAnB_f, kOrB_t, kOrB_f, kTup_e, kLst_e, kCP_e, kD_e, kML_e, kML2_e, kS1_e, kS2_e, kS3_e, kI_e, kCh1_e, kCh2_e, kCh3_t, kCh3_f, kAsg_e, kNx_e, kRet_e, kDrop_e, kSif_t, kSif_f, kSub1_e, kSub2_e, kSub3_e, kNxM_e, kFor_e, kBody_e, kIE_e, kSrc_e, kR1_e, kR2_e, kR2b_e, kZ1_e, kZ2_e, kEn_e, kMap_e, kMap2_e, kIt1_e, kIt2_t, kIt2_f, kSome_e, kLc_e, kLc2_e, kGc_e, par3_e, kAs2_e, kAs3_e, kAs4_e, kAs5_e, kAs6_e, fnOf2_e, fnV_e, kCV_e, kFld1_e, kFld2_e, kMk_e, kMk2_e, kMt_e, kMt2_e, kMt3_e, gFldE, setFE, metE, insAt_zero, insAt_succ, ob_s, ob_n, then_nx, then_rt, then_bk, then_ct, par2_e, turn_nx, turn_ct, turn_bk, turn_rt, runT_nil, runT_cons, mapT_nil, mapT_cons, finP_nx, finM_rt, finM_nx, addE, subE, negE, cmpE, ixT, truI, truB, at0, at1, at2, at3, List.getElem?_cons_zero, List.getElem?_cons_succ, List.set_cons_zero, List.set_cons_succ, List.length_cons, List.length_nil, Nat.reduceAdd, Nat.reduceLeDiff, if_true, if_false, reduceIte, reduceCtorEq, id_eq, Bool.not_true, Bool.not_false, Bool.false_eq_true, and_self, Int.reduceLE, Int.reduceLT, Int.reduceNeg, decide_true, decide_false, Option.toList_some, Option.toList_none, List.cons_append, List.nil_append, ixRf, tupRf, lenRf, listRf, isLstRf, appRf, revRf, setRf, itemsRf, itemsT, itemsL, zipT, zipRf, allRf, anyRf, sumRf, tupT, slRf, isiE, t2E, lenT, lstAt_zero, lstAt_succ, Option.isSome_some, Nat.reduceLT, Bool.or_true, Bool.or_false, Bool.true_or, Bool.false_or, gIsN, gNotN, D.isNon, wipeD, isBlE, notBlE, min1Rf, kZa_e, kZb_e, kZc_e, kZd_e, kZe_e, kZa4_e, kZb4_e, kLRa_e, kLRb_e, zip3T, zip4T, M57_2, M57_1, d1, d2, hlen, decide_eq_true (show (d.p : Int) < (d.bg.length : Int) by omega)]
      obtain ⟨x, hx⟩ : ∃ x, d.bg[d.p]? = some x := ⟨_, List.getElem?_eq_getElem c⟩
      have x0 := h0 x (List.mem_of_getElem? hx)
      have ix : atI (d.bg.map D.int) (d.p : Int) = some (.int x) := atI_of rfl (by rw [List.getElem?_map, hx]; rfl)
      have jx : ixN (d.bg.map D.int).length (d.p : Int) = some d.p := by
        simp [ixN]
        omega
      rw [e1]
      simp only [Option.bind_some, if_true]
      by_cases cx : 0 < x
      · refine .inr ⟨d.p, d.bg.set d.p (x.fdiv many), x.fmod many, fun y hy => ?_, by simp, Int.fmod_nonneg_of_pos x hm, Int.fmod_lt_of_pos x hm, ?_⟩
        · rcases List.mem_or_eq_of_mem_set hy with hy | rfl
          · exact h0 y hy
          · exact Int.fdiv_nonneg x0 (by omega)
        · have fd := fdE (i := x) (j := many) (by omega) ((bt_abs (m := 100) (by omega) (by omega)).mono (by decide))
          have st : (d.bg.map D.int).set d.p (.int (x.fdiv many)) = (d.bg.set d.p (x.fdiv many)).map D.int := by rw [List.map_set]
          simp only [↓ev_V, ↓ev_C, ↓ev_O, ↓ev_U, ↓ev_Nil, ↓ev_Cons, ↓ev_L, ↓ev_If, ↓ev_tV, ↓ev_tTr, ↓ev_tAn, ↓ev_tOr, ↓ev_tNo, ↓ev_NotB, ↓ev_AnB, ↓ev_OrB, ↓ev_Tup, ↓ev_Lst, ↓ev_CP, ↓ev_ML, ↓ev_Sli, ↓ev_oN, ↓ev_oS, ↓ev_Ch, ↓ev_gN, ↓ev_gsNil, ↓ev_gsCons, ↓ev_gT, ↓ev_Seq, ↓ev_Asg, ↓ev_Par, ↓ev_Ret, ↓ev_Drop, ↓ev_sIf, ↓ev_Next, ↓ev_Brk, ↓ev_Cont, ↓ev_RetN, ↓ev_Sub, ↓ev_For, ↓ev_body, ↓ev_iE, ↓ev_iR1, ↓ev_iR2, ↓ev_iZ, ↓ev_iEn, ↓ev_item, ↓ev_Lc, ↓ev_Yes, ↓ev_Par3, ↓ev_As2, ↓ev_As4, ↓ev_CV, ↓ev_Fld, ↓ev_Mk, ↓ev_Mk0, ↓ev_Mt, ↓ev_ForM, ↓ev_bodyM, ↓ev_gTmT, ↓ev_gTmR, ↓ev_AsgM, ↓ev_Star, ↓ev_Dc, ↓ev_iRr, ↓ev_iRv, ↓ev_iZ3, ↓ev_iZ4, ↓ev_LR2, kForM_e, kAsgM_e, kSt1_e, kSt2_e, kSt3_e, seqT, seqRf, popRf, insRf, inE, notInE, kDc_e, kRr_e, kRv_e, revT, revL, vOf_e, kO_e, kO2_e, kU_e, kCons_e, kCons2_e, kL_e, kIf_t, kIf_f, kB_e, kTr_e, kTr2_e, kAn_t, kAn_f, kOr_t, kOr_f, kNo_e, kNotB_e, kAnB_t, kAnB_f, kOrB_t, kOrB_f, kTup_e, kLst_e, kCP_e, kD_e, kML_e, kML2_e, kS1_e, kS2_e, kS3_e, kI_e, kCh1_e, kCh2_e, kCh3_t, kCh3_f, kAsg_e, kNx_e, kRet_e, kDrop_e, kSif_t, kSif_f, kSub1_e, kSub2_e, kSub3_e, kNxM_e, kFor_e, kBody_e, kIE_e, kSrc_e, kR1_e, kR2_e, kR2b_e, kZ1_e, kZ2_e, kEn_e, kMap_e, kMap2_e, kIt1_e, kIt2_t, kIt2_f, kSome_e, kLc_e, kLc2_e, kGc_e, par3_e, kAs2_e, kAs3_e, kAs4_e, kAs5_e, kAs6_e, fnOf2_e, fnV_e, kCV_e, kFld1_e, kFld2_e, kMk_e, kMk2_e, kMt_e, kMt2_e, kMt3_e, gFldE, setFE, metE, insAt_zero, insAt_succ, ob_s, ob_n, then_nx, then_rt, then_bk, then_ct, par2_e, turn_nx, turn_ct, turn_bk, turn_rt, runT_nil, runT_cons, mapT_nil, mapT_cons, finP_nx, finM_rt, finM_nx, addE, subE, negE, cmpE, ixT, truI, truB, at0, at1, at2, at3, List.getElem?_cons_zero, List.getElem?_cons_succ, List.set_cons_zero, List.set_cons_succ, List.length_cons, List.length_nil, Nat.reduceAdd, Nat.reduceLeDiff, if_true, if_false, reduceIte, reduceCtorEq, id_eq, Bool.not_true, Bool.not_false, Bool.false_eq_true, and_self, Int.reduceLE, Int.reduceLT, Int.reduceNeg, decide_true, decide_false, Option.toList_some, Option.toList_none, List.cons_append, List.nil_append, ixRf, tupRf, lenRf, listRf, isLstRf, appRf, revRf, setRf, itemsRf, itemsT, itemsL, zipT, zipRf, allRf, anyRf, sumRf, tupT, slRf, isiE, t2E, lenT, lstAt_zero, lstAt_succ, Option.isSome_some, Nat.reduceLT, Bool.or_true, Bool.or_false, Bool.true_or, Bool.false_or, gIsN, gNotN, D.isNon, wipeD, isBlE, notBlE, min1Rf, kZa_e, kZb_e, kZc_e, kZd_e, kZe_e, kZa4_e, kZb4_e, kLRa_e, kLRb_e, zip3T, zip4T, M57_2, M57_1, d1, d2, ix, jx, decide_eq_true cx, fd, modE (show many ≠ 0 by omega), st, M57_s1]
          rfl
      · have s2 : [D.rf B.length, D.rf (B.length + 1), D.int (d.p : Nat), D.int (d.c : Nat)].set 2 (.int ((d.p : Int) + 1)) = [.rf B.length, .rf (B.length + 1), .int ((d.p + 1 : Nat) : Int), .int (d.c : Nat)] := rfl
        have j2 : ixN 4 2 = some 2 := rfl
        have stp : M57 B ones { d with p := d.p + 1, c := d.c } = M57 B ones { d with p := d.p + 1 } := rfl
        have e2 : (sSeq (sAsg (fO gIx (fO gIx (fV 0) (fC (.int 1))) (fO gIx (fV 0) (fC (.int 2)))) (gN 2))
          (sSeq (sIf (tV (fO gGt (fV 2) (fC (.int 0)))) (sSeq (sSub (fO gFd (fV 2) (fV 1)) (fO gIx (fV 0) (fC (.int 1))) (fO gIx (fV 0) (fC (.int 2))))
          (sRet (fO gMod (fV 2) (fV 1)))) sNext)
          (sSub (fO gAdd (fO gIx (fV 0) (fC (.int 2))) (fC (.int 1))) (fV 0) (fC (.int 2))))) [some (.rf (B.length + 2)), some (.int many), z] (M57 B ones d ++ X) = some (.nx [some (.rf (B.length + 2)), some (.int many), some (.int x)], M57 B ones { d with p := d.p + 1 } ++ X) := by
          simp only [↓ev_V, ↓ev_C, ↓ev_O, ↓ev_U, ↓ev_Nil, ↓ev_Cons, ↓ev_L, ↓ev_If, ↓ev_tV, ↓ev_tTr, ↓ev_tAn, ↓ev_tOr, ↓ev_tNo, ↓ev_NotB, ↓ev_AnB, ↓ev_OrB, ↓ev_Tup, ↓ev_Lst, ↓ev_CP, ↓ev_ML, ↓ev_Sli, ↓ev_oN, ↓ev_oS, ↓ev_Ch, ↓ev_gN, ↓ev_gsNil, ↓ev_gsCons, ↓ev_gT, ↓ev_Seq, ↓ev_Asg, ↓ev_Par, ↓ev_Ret, ↓ev_Drop, ↓ev_sIf, ↓ev_Next, ↓ev_Brk, ↓ev_Cont, ↓ev_RetN, ↓ev_Sub, ↓ev_For, ↓ev_body, ↓ev_iE, ↓ev_iR1, ↓ev_iR2, ↓ev_iZ, ↓ev_iEn, ↓ev_item, ↓ev_Lc, ↓ev_Yes, ↓ev_Par3, ↓ev_As2, ↓ev_As4, ↓ev_CV, ↓ev_Fld, ↓ev_Mk, ↓ev_Mk0, ↓ev_Mt, ↓ev_ForM, ↓ev_bodyM, ↓ev_gTmT, ↓ev_gTmR, ↓ev_AsgM, ↓ev_Star, ↓ev_Dc, ↓ev_iRr, ↓ev_iRv, ↓ev_iZ3, ↓ev_iZ4, ↓ev_LR2, kForM_e, kAsgM_e, kSt1_e, kSt2_e, kSt3_e, seqT, seqRf, popRf, insRf, inE, notInE, kDc_e, kRr_e, kRv_e, revT, revL, vOf_e, kO_e, kO2_e, kU_e, kCons_e, kCons2_e, kL_e, kIf_t, kIf_f, kB_e, kTr_e, kTr2_e, kAn_t, kAn_f, kOr_t, kOr_f, kNo_e, kNotB_e, kAnB_t, kAnB_f, kOrB_t, kOrB_f, kTup_e, kLst_e, kCP_e, kD_e, kML_e, kML2_e, kS1_e, kS2_e, kS3_e, kI_e, kCh1_e, kCh2_e, kCh3_t, kCh3_f, kAsg_e, kNx_e, kRet_e, kDrop_e, kSif_t, kSif_f, kSub1_e, kSub2_e, kSub3_e, kNxM_e, kFor_e, kBody_e, kIE_e, kSrc_e, kR1_e, kR2_e, kR2b_e, kZ1_e, kZ2_e, kEn_e, kMap_e, kMap2_e, kIt1_e, kIt2_t, kIt2_f, kSome_e, kLc_e, kLc2_e, kGc_e, par3_e, kAs2_e, kAs3_e, kAs4_e, kAs5_e, kAs6_e, fnOf2_e, fnV_e, kCV_e, kFld1_e, kFld2_e, kMk_e, kMk2_e, kMt_e, kMt2_e, kMt3_e, gFldE, setFE, metE, insAt_zero, insAt_succ, ob_s, ob_n, then_nx, then_rt, then_bk, then_ct, par2_e, turn_nx, turn_ct, turn_bk, turn_rt, runT_nil, runT_cons, mapT_nil, mapT_cons, finP_nx, finM_rt, finM_nx, addE, subE, negE, cmpE, ixT, truI, truB, at0, at1, at2, at3, List.getElem?_cons_zero, List.getElem?_cons_succ, List.set_cons_zero, List.set_cons_succ, List.length_cons, List.length_nil, Nat.reduceAdd, Nat.reduceLeDiff, if_true, if_false, reduceIte, reduceCtorEq, id_eq, Bool.not_true, Bool.not_false, Bool.false_eq_true, and_self, Int.reduceLE, Int.reduceLT, Int.reduceNeg, decide_true, decide_false, Option.toList_some, Option.toList_none, List.cons_append, List.nil_append, ixRf, tupRf, lenRf, listRf, isLstRf, appRf, revRf, setRf, itemsRf, itemsT, itemsL, zipT, zipRf, allRf, anyRf, sumRf, tupT, slRf, isiE, t2E, lenT, lstAt_zero, lstAt_succ, Option.isSome_some, Nat.reduceLT, Bool.or_true, Bool.or_false, Bool.true_or, Bool.false_or, gIsN, gNotN, D.isNon, wipeD, isBlE, notBlE, min1Rf, kZa_e, kZb_e, kZc_e, kZd_e, kZe_e, kZa4_e, kZb4_e, kLRa_e, kLRb_e, zip3T, zip4T, M57_2, M57_1, d1, d2, ix, decide_eq_false cx, j2, s2, M57_s2, stp]
        rw [e2]
        exact tk57_loop hm hm2 X n { d with p := d.p + 1 } (some (.int x)) (by show d.bg.length - (d.p + 1) < n; omega) h0 hl
    · have e1 : tV (fO gLt (fO gIx (fV 0) (fC (.int 2))) (fL bLen (fCons (fO gIx (fV 0) (fC (.int 1))) fNil))) [some (.rf (B.length + 2)), some (.int many), z] (M57 B ones d ++ X) = some (false, M57 B ones d ++ X) := by
        simp only [↓ev_V, ↓ev_C, ↓ev_O, ↓ev_U, ↓ev_Nil, ↓ev_Cons, ↓ev_L, ↓ev_If, ↓ev_tV, ↓ev_tTr, ↓ev_tAn, ↓ev_tOr, ↓ev_tNo, ↓ev_NotB, ↓ev_AnB, ↓ev_OrB, ↓ev_Tup, ↓ev_Lst, ↓ev_CP, ↓ev_ML, ↓ev_Sli, ↓ev_oN, ↓ev_oS, ↓ev_Ch, ↓ev_gN, ↓ev_gsNil, ↓ev_gsCons, ↓ev_gT, ↓ev_Seq, ↓ev_Asg, ↓ev_Par, ↓ev_Ret, ↓ev_Drop, ↓ev_sIf, ↓ev_Next, ↓ev_Brk, ↓ev_Cont, ↓ev_RetN, ↓ev_Sub, ↓ev_For, ↓ev_body, ↓ev_iE, ↓ev_iR1, ↓ev_iR2, ↓ev_iZ, ↓ev_iEn, ↓ev_item, ↓ev_Lc, ↓ev_Yes, ↓ev_Par3, ↓ev_As2, ↓ev_As4, ↓ev_CV, ↓ev_Fld, ↓ev_Mk, ↓ev_Mk0, ↓ev_Mt, ↓ev_ForM, ↓ev_bodyM, ↓ev_gTmT, ↓ev_gTmR, ↓ev_AsgM, ↓ev_Star, ↓ev_Dc, ↓ev_iRr, ↓ev_iRv, ↓ev_iZ3, ↓ev_iZ4, ↓ev_LR2, kForM_e, kAsgM_e, kSt1_e, kSt2_e, kSt3_e, seqT, seqRf, popRf, insRf, inE, notInE, kDc_e, kRr_e, kRv_e, revT, revL, vOf_e, kO_e, kO2_e, kU_e, kCons_e, kCons2_e, kL_e, kIf_t, kIf_f, kB_e, kTr_e, kTr2_e, kAn_t, kAn_f, kOr_t, kOr_f, kNo_e, kNotB_e, kAnB_t, kAnB_f, kOrB_t, kOrB_f, kTup_e, kLst_e, kCP_e, kD_e, kML_e, kML2_e, kS1_e, kS2_e, kS3_e, kI_e, kCh1_e, kCh2_e, kCh3_t, kCh3_f, kAsg_e, kNx_e, kRet_e, kDrop_e, kSif_t, kSif_f, kSub1_e, kSub2_e, kSub3_e, kNxM_e, kFor_e, kBody_e, kIE_e, kSrc_e, kR1_e, kR2_e, kR2b_e, kZ1_e, kZ2_e, kEn_e, kMap_e, kMap2_e, kIt1_e, kIt2_t, kIt2_f, kSome_e, kLc_e, kLc2_e, kGc_e, par3_e, kAs2_e, kAs3_e, kAs4_e, kAs5_e, kAs6_e, fnOf2_e, fnV_e, kCV_e, kFld1_e, kFld2_e, kMk_e, kMk2_e, kMt_e, kMt2_e, kMt3_e, gFldE, setFE, metE, insAt_zero, insAt_succ, ob_s, ob_n, then_nx, then_rt, then_bk, then_ct, par2_e, turn_nx, turn_ct, turn_bk, turn_rt, runT_nil, runT_cons, mapT_nil, mapT_cons, finP_nx, finM_rt, finM_nx, addE, subE, negE, cmpE, ixT, truI, truB, at0, at1, at2, at3, List.getElem?_cons_zero, List.getElem?_cons_succ, List.set_cons_zero, List.set_cons_succ, List.length_cons, List.length_nil, Nat.reduceAdd, Nat.reduceLeDiff, if_true, if_false, reduceIte, reduceCtorEq, id_eq, Bool.not_true, Bool.not_false, Bool.false_eq_true, and_self, Int.reduceLE, Int.reduceLT, Int.reduceNeg, decide_true, decide_false, Option.toList_some, Option.toList_none, List.cons_append, List.nil_append, ixRf, tupRf, lenRf, listRf, isLstRf, appRf, revRf, setRf, itemsRf, itemsT, itemsL, zipT, zipRf, allRf, anyRf, sumRf, tupT, slRf, isiE, t2E, lenT, lstAt_zero, lstAt_succ, Option.isSome_some, Nat.reduceLT, Bool.or_true, Bool.or_false, Bool.true_or, Bool.false_or, gIsN, gNotN, D.isNon, wipeD, isBlE, notBlE, min1Rf, kZa_e, kZb_e, kZc_e, kZd_e, kZe_e, kZa4_e, kZb4_e, kLRa_e, kLRb_e, zip3T, zip4T, M57_2, M57_1, d1, d2, hlen, decide_eq_false (show ¬ (d.p : Int) < (d.bg.length : Int) by omega)]
      rw [e1]
      exact .inl ⟨d.p, z, by omega, rfl⟩
theorem take57 {B : Mem} {ones : List Int} (hB : B.all (Cell.lo B.length) = true) (ho : 0 < ones.length) {b : Nat} {d : D57} (h : d.Ok (b + 1)) {many : Int} (hm : 0 < many) (hm2 : many < 2 ^ 100) {X : Mem} (hX : X.all (Cell.lo 0) = true) : ∃ v d', D57.Ok b d' ∧ 0 ≤ v ∧ v < many ∧ m__law_take [.rf (B.length + 2), .int many] (M57 B ones d ++ X) = some (.int v, M57 B ones d' ++ X) := by
  have lo : ∀ d : D57, (M57 B ones d ++ X).all (Cell.lo (M57 B ones d ++ X).length) = true := fun d => by
    refine all_app (all_app (all_up hB (by simp [M57])) ?_) (all_up hX (Nat.zero_le _))
    have l1 : ∀ (n : Nat) (l : List Int), Cell.lo n (.lst (l.map D.int)) = true := fun n l => los_map _ _ _ fun _ _ => rfl
    have l2 : ∀ n : Nat, B.length + 2 ≤ n → Cell.lo n (.lst [.rf B.length, .rf (B.length + 1), .int (d.p : Nat), .int (d.c : Nat)]) = true := fun n hn => by
      show (decide (B.length < n) && (decide (B.length + 1 < n) && (true && (true && true)))) = true
      rw [decide_eq_true (by omega), decide_eq_true (by omega)]
      rfl
    rw [List.all_cons, List.all_cons, List.all_cons, l1, l1, l2 _ (by simp [M57])]
    rfl
  have ln : ∀ d d' : D57, (M57 B ones d ++ X).length = (M57 B ones d' ++ X).length := fun d d' => by simp [M57]
  have fin : ∀ (v : Int) (d' : D57), gc (M57 B ones d ++ X).length (.int v, M57 B ones d' ++ X) = (.int v, M57 B ones d' ++ X) := fun v d' => by
    have := gc_e (n := (M57 B ones d ++ X).length) (v := .int v) (M := M57 B ones d' ++ X) (G := []) (ln d' d) rfl (by rw [ln d d']; exact lo d')
    rwa [List.append_nil] at this
  obtain ⟨h0, hl, hc⟩ := h
  rcases tk57_loop (B := B) (ones := ones) hm hm2 X (d.bg.length - d.p + 1) d none (by omega) h0 hl with ⟨p, z', hp, w⟩ | ⟨p, bg, v, k1, k2, k3, k4, w⟩
  · have w := sWhile_of w
    have d3 : ∀ (p c : Nat), atI [D.rf B.length, .rf (B.length + 1), .int (p : Nat), .int (c : Nat)] 3 = some (.int (c : Nat)) := fun _ _ => rfl
    have d0 : ∀ (p c : Nat), atI [D.rf B.length, .rf (B.length + 1), .int (p : Nat), .int (c : Nat)] 0 = some (.rf B.length) := fun _ _ => rfl
    have s3 : [D.rf B.length, D.rf (B.length + 1), D.int (p : Nat), D.int (d.c : Nat)].set 3 (.int ((d.c : Int) + 1)) = [.rf B.length, .rf (B.length + 1), .int (p : Nat), .int ((d.c + 1 : Nat) : Int)] := rfl
    have j3 : ixN 4 3 = some 3 := rfl
    have ol : ((ones.map D.int).length : Int) = (ones.length : Nat) := by simp
    obtain ⟨i, hi⟩ : ∃ i, ((d.c + 1 : Nat) : Int).fmod (ones.length : Nat) = i := ⟨_, rfl⟩
    have i1 : 0 ≤ i := by rw [← hi]; exact Int.fmod_nonneg_of_pos _ (by omega)
    have i2 : i < ones.length := by rw [← hi]; exact Int.fmod_lt_of_pos _ (by omega)
    obtain ⟨y, hy⟩ : ∃ y, ones[i.toNat]? = some y := ⟨_, List.getElem?_eq_getElem (by omega)⟩
    have iy : atI (ones.map D.int) i = some (.int y) := atI_of (j := i.toNat) (by omega) (by rw [List.getElem?_map, hy]; rfl)
    obtain ⟨o, ho1⟩ : ∃ o, y.fmod 1000003 + 5 = o := ⟨_, rfl⟩
    have o1 : 0 ≤ o := by have := Int.fmod_nonneg_of_pos y (show (0 : Int) < 1000003 by decide); omega
    have o2 : o < 1000008 := by have := Int.fmod_lt_of_pos y (show (0 : Int) < 1000003 by decide); omega
    have c1 : (d.c : Int) + 1 ≤ 100000 := by omega
    have c2 : ((d.c + 1 : Nat) : Int) = (d.c : Int) + 1 := by omega
    have b1 : Bt 30 o := bt_abs (by omega) (by omega)
    have b2 : Bt 30 (((d.c + 1 : Nat) : Int) + 2) := bt_abs (by omega) (by omega)
    have b3 : Bt 30 (7919 : Int) := bt_abs (by decide) (by decide)
    have b4 : Bt 30 ((d.c + 1 : Nat) : Int) := bt_abs (by omega) (by omega)
    have m1 := mulE (mul_bt b1 b2 (by decide))
    have m2 := mulE (mul_bt b3 b4 (by decide))
    obtain ⟨s, hs⟩ : ∃ s, o * (((d.c + 1 : Nat) : Int) + 2) + 7919 * ((d.c + 1 : Nat) : Int) = s := ⟨_, rfl⟩
    have s1 : 0 ≤ s := by
      have := Int.mul_nonneg o1 (show (0 : Int) ≤ ((d.c + 1 : Nat) : Int) + 2 by omega)
      omega
    have s2 : s ≤ 1000008 * 100003 + 7919 * 100000 := by
      have : o * (((d.c + 1 : Nat) : Int) + 2) ≤ 1000008 * 100003 := Int.mul_le_mul (by omega) (by omega) (by omega) (by decide)
      omega
    have pw := powE (i := s) (j := 5) ⟨by decide, by decide, by omega⟩
    have b13 : Bt 9000 (13 : Int) := (bt_abs (m := 10) (by decide) (by decide)).mono (by decide)
    have f13 := fun i : Int => fdE (i := i) (j := 13) (by decide) b13
    refine ⟨(((s ^ (5 : Int).toNat).fmod 2147483647).fdiv 13).fmod many, { d with p := p, c := d.c + 1 }, ⟨h0, hl, by show d.c + 1 + b ≤ 100000; omega⟩, Int.fmod_nonneg_of_pos _ hm, Int.fmod_lt_of_pos _ hm, ?_⟩
    rw [e__law_take]
    unfold b__law_take
    simp only [↓ev_V, ↓ev_C, ↓ev_O, ↓ev_U, ↓ev_Nil, ↓ev_Cons, ↓ev_L, ↓ev_If, ↓ev_tV, ↓ev_tTr, ↓ev_tAn, ↓ev_tOr, ↓ev_tNo, ↓ev_NotB, ↓ev_AnB, ↓ev_OrB, ↓ev_Tup, ↓ev_Lst, ↓ev_CP, ↓ev_ML, ↓ev_Sli, ↓ev_oN, ↓ev_oS, ↓ev_Ch, ↓ev_gN, ↓ev_gsNil, ↓ev_gsCons, ↓ev_gT, ↓ev_Seq, ↓ev_Asg, ↓ev_Par, ↓ev_Ret, ↓ev_Drop, ↓ev_sIf, ↓ev_Next, ↓ev_Brk, ↓ev_Cont, ↓ev_RetN, ↓ev_Sub, ↓ev_For, ↓ev_body, ↓ev_iE, ↓ev_iR1, ↓ev_iR2, ↓ev_iZ, ↓ev_iEn, ↓ev_item, ↓ev_Lc, ↓ev_Yes, ↓ev_Par3, ↓ev_As2, ↓ev_As4, ↓ev_CV, ↓ev_Fld, ↓ev_Mk, ↓ev_Mk0, ↓ev_Mt, ↓ev_ForM, ↓ev_bodyM, ↓ev_gTmT, ↓ev_gTmR, ↓ev_AsgM, ↓ev_Star, ↓ev_Dc, ↓ev_iRr, ↓ev_iRv, ↓ev_iZ3, ↓ev_iZ4, ↓ev_LR2, kForM_e, kAsgM_e, kSt1_e, kSt2_e, kSt3_e, seqT, seqRf, popRf, insRf, inE, notInE, kDc_e, kRr_e, kRv_e, revT, revL, vOf_e, kO_e, kO2_e, kU_e, kCons_e, kCons2_e, kL_e, kIf_t, kIf_f, kB_e, kTr_e, kTr2_e, kAn_t, kAn_f, kOr_t, kOr_f, kNo_e, kNotB_e, kAnB_t, kAnB_f, kOrB_t, kOrB_f, kTup_e, kLst_e, kCP_e, kD_e, kML_e, kML2_e, kS1_e, kS2_e, kS3_e, kI_e, kCh1_e, kCh2_e, kCh3_t, kCh3_f, kAsg_e, kNx_e, kRet_e, kDrop_e, kSif_t, kSif_f, kSub1_e, kSub2_e, kSub3_e, kNxM_e, kFor_e, kBody_e, kIE_e, kSrc_e, kR1_e, kR2_e, kR2b_e, kZ1_e, kZ2_e, kEn_e, kMap_e, kMap2_e, kIt1_e, kIt2_t, kIt2_f, kSome_e, kLc_e, kLc2_e, kGc_e, par3_e, kAs2_e, kAs3_e, kAs4_e, kAs5_e, kAs6_e, fnOf2_e, fnV_e, kCV_e, kFld1_e, kFld2_e, kMk_e, kMk2_e, kMt_e, kMt2_e, kMt3_e, gFldE, setFE, metE, insAt_zero, insAt_succ, ob_s, ob_n, then_nx, then_rt, then_bk, then_ct, par2_e, turn_nx, turn_ct, turn_bk, turn_rt, runT_nil, runT_cons, mapT_nil, mapT_cons, finP_nx, finM_rt, finM_nx, addE, subE, negE, cmpE, ixT, truI, truB, at0, at1, at2, at3, List.getElem?_cons_zero, List.getElem?_cons_succ, List.set_cons_zero, List.set_cons_succ, List.length_cons, List.length_nil, Nat.reduceAdd, Nat.reduceLeDiff, if_true, if_false, reduceIte, reduceCtorEq, id_eq, Bool.not_true, Bool.not_false, Bool.false_eq_true, and_self, Int.reduceLE, Int.reduceLT, Int.reduceNeg, decide_true, decide_false, Option.toList_some, Option.toList_none, List.cons_append, List.nil_append, ixRf, tupRf, lenRf, listRf, isLstRf, appRf, revRf, setRf, itemsRf, itemsT, itemsL, zipT, zipRf, allRf, anyRf, sumRf, tupT, slRf, isiE, t2E, lenT, lstAt_zero, lstAt_succ, Option.isSome_some, Nat.reduceLT, Bool.or_true, Bool.or_false, Bool.true_or, Bool.false_or, gIsN, gNotN, D.isNon, wipeD, isBlE, notBlE, min1Rf, kZa_e, kZb_e, kZc_e, kZd_e, kZe_e, kZa4_e, kZb4_e, kLRa_e, kLRb_e, zip3T, zip4T, w, M57_2, M57_0, d3, d0, j3, s3, M57_s2, ol, modE (show ((ones.length : Nat) : Int) ≠ 0 by omega), hi, iy, modE (show (1000003 : Int) ≠ 0 by decide), ho1, m1, m2, hs, pw, modE (show (2147483647 : Int) ≠ 0 by decide), f13, modE (show many ≠ 0 by omega), fin]
  · have w := sWhile_of w
    refine ⟨v, { d with p := p, bg := bg }, ⟨k1, by show bg.length ≤ 1000; omega, by show d.c + b ≤ 100000; omega⟩, k3, k4, ?_⟩
    rw [e__law_take]
    unfold b__law_take
    simp only [↓ev_V, ↓ev_C, ↓ev_O, ↓ev_U, ↓ev_Nil, ↓ev_Cons, ↓ev_L, ↓ev_If, ↓ev_tV, ↓ev_tTr, ↓ev_tAn, ↓ev_tOr, ↓ev_tNo, ↓ev_NotB, ↓ev_AnB, ↓ev_OrB, ↓ev_Tup, ↓ev_Lst, ↓ev_CP, ↓ev_ML, ↓ev_Sli, ↓ev_oN, ↓ev_oS, ↓ev_Ch, ↓ev_gN, ↓ev_gsNil, ↓ev_gsCons, ↓ev_gT, ↓ev_Seq, ↓ev_Asg, ↓ev_Par, ↓ev_Ret, ↓ev_Drop, ↓ev_sIf, ↓ev_Next, ↓ev_Brk, ↓ev_Cont, ↓ev_RetN, ↓ev_Sub, ↓ev_For, ↓ev_body, ↓ev_iE, ↓ev_iR1, ↓ev_iR2, ↓ev_iZ, ↓ev_iEn, ↓ev_item, ↓ev_Lc, ↓ev_Yes, ↓ev_Par3, ↓ev_As2, ↓ev_As4, ↓ev_CV, ↓ev_Fld, ↓ev_Mk, ↓ev_Mk0, ↓ev_Mt, ↓ev_ForM, ↓ev_bodyM, ↓ev_gTmT, ↓ev_gTmR, ↓ev_AsgM, ↓ev_Star, ↓ev_Dc, ↓ev_iRr, ↓ev_iRv, ↓ev_iZ3, ↓ev_iZ4, ↓ev_LR2, kForM_e, kAsgM_e, kSt1_e, kSt2_e, kSt3_e, seqT, seqRf, popRf, insRf, inE, notInE, kDc_e, kRr_e, kRv_e, revT, revL, vOf_e, kO_e, kO2_e, kU_e, kCons_e, kCons2_e, kL_e, kIf_t, kIf_f, kB_e, kTr_e, kTr2_e, kAn_t, kAn_f, kOr_t, kOr_f, kNo_e, kNotB_e, kAnB_t, kAnB_f, kOrB_t, kOrB_f, kTup_e, kLst_e, kCP_e, kD_e, kML_e, kML2_e, kS1_e, kS2_e, kS3_e, kI_e, kCh1_e, kCh2_e, kCh3_t, kCh3_f, kAsg_e, kNx_e, kRet_e, kDrop_e, kSif_t, kSif_f, kSub1_e, kSub2_e, kSub3_e, kNxM_e, kFor_e, kBody_e, kIE_e, kSrc_e, kR1_e, kR2_e, kR2b_e, kZ1_e, kZ2_e, kEn_e, kMap_e, kMap2_e, kIt1_e, kIt2_t, kIt2_f, kSome_e, kLc_e, kLc2_e, kGc_e, par3_e, kAs2_e, kAs3_e, kAs4_e, kAs5_e, kAs6_e, fnOf2_e, fnV_e, kCV_e, kFld1_e, kFld2_e, kMk_e, kMk2_e, kMt_e, kMt2_e, kMt3_e, gFldE, setFE, metE, insAt_zero, insAt_succ, ob_s, ob_n, then_nx, then_rt, then_bk, then_ct, par2_e, turn_nx, turn_ct, turn_bk, turn_rt, runT_nil, runT_cons, mapT_nil, mapT_cons, finP_nx, finM_rt, finM_nx, addE, subE, negE, cmpE, ixT, truI, truB, at0, at1, at2, at3, List.getElem?_cons_zero, List.getElem?_cons_succ, List.set_cons_zero, List.set_cons_succ, List.length_cons, List.length_nil, Nat.reduceAdd, Nat.reduceLeDiff, if_true, if_false, reduceIte, reduceCtorEq, id_eq, Bool.not_true, Bool.not_false, Bool.false_eq_true, and_self, Int.reduceLE, Int.reduceLT, Int.reduceNeg, decide_true, decide_false, Option.toList_some, Option.toList_none, List.cons_append, List.nil_append, ixRf, tupRf, lenRf, listRf, isLstRf, appRf, revRf, setRf, itemsRf, itemsT, itemsL, zipT, zipRf, allRf, anyRf, sumRf, tupT, slRf, isiE, t2E, lenT, lstAt_zero, lstAt_succ, Option.isSome_some, Nat.reduceLT, Bool.or_true, Bool.or_false, Bool.true_or, Bool.false_or, gIsN, gNotN, D.isNon, wipeD, isBlE, notBlE, min1Rf, kZa_e, kZb_e, kZc_e, kZd_e, kZe_e, kZa4_e, kZb4_e, kLRa_e, kLRb_e, zip3T, zip4T, w, fin]

/-! ### k57: what is drawn -/
def eP57 (x y z : Rat) : D := .tup [eF x, eF y, eF z]
section
variable {B : Mem} {ones : List Int}
theorem lo57 (hB : B.all (Cell.lo B.length) = true) {X : Mem} (hX : X.all (Cell.lo 0) = true) (d : D57) : (M57 B ones d ++ X).all (Cell.lo (M57 B ones d ++ X).length) = true := by
  refine all_app (all_app (all_up hB (by simp [M57])) ?_) (all_up hX (Nat.zero_le _))
  have l1 : ∀ (n : Nat) (l : List Int), Cell.lo n (.lst (l.map D.int)) = true := fun n l => los_map _ _ _ fun _ _ => rfl
  have l2 : ∀ n : Nat, B.length + 2 ≤ n → Cell.lo n (.lst [.rf B.length, .rf (B.length + 1), .int (d.p : Nat), .int (d.c : Nat)]) = true := fun n hn => by
    show (decide (B.length < n) && (decide (B.length + 1 < n) && (true && (true && true)))) = true
    rw [decide_eq_true (by omega), decide_eq_true (by omega)]
    rfl
  rw [List.all_cons, List.all_cons, List.all_cons, l1, l1, l2 _ (by simp [M57])]
  rfl
/- what is left when a def's own cells are cleared away -/
theorem gc57 (hB : B.all (Cell.lo B.length) = true) {X : Mem} (hX : X.all (Cell.lo 0) = true) (d d' : D57) {v : D} (hv : v.lo (M57 B ones d ++ X).length = true) (C : Mem) : gc (M57 B ones d ++ X).length (v, M57 B ones d' ++ (X ++ C)) = (v, M57 B ones d' ++ X) := by
  have e : (M57 B ones d' ++ X).length = (M57 B ones d ++ X).length := by simp [M57]
  rw [← List.append_assoc]
  exact gc_e e hv (by rw [← e]; exact lo57 hB hX d')
theorem below57 {v : Int} (h1 : 0 ≤ v) (h2 : v < 6) : ∃ b : Int, 1 ≤ b ∧ b ≤ 3 ∧ atI [D.int 1, .int 1, .int 1, .int 1, .int 2, .int 3] v = some (.int b) := by
  have : v = 0 ∨ v = 1 ∨ v = 2 ∨ v = 3 ∨ v = 4 ∨ v = 5 := by omega
  rcases this with rfl | rfl | rfl | rfl | rfl | rfl
  · exact ⟨1, by decide, by decide, rfl⟩
  · exact ⟨1, by decide, by decide, rfl⟩
  · exact ⟨1, by decide, by decide, rfl⟩
  · exact ⟨1, by decide, by decide, rfl⟩
  · exact ⟨2, by decide, by decide, rfl⟩
  · exact ⟨3, by decide, by decide, rfl⟩
theorem number57 (hB : B.all (Cell.lo B.length) = true) (ho : 0 < ones.length) {b : Nat} {d : D57} (h : d.Ok (b + 2)) {far : Int} (f1 : 0 < far) (f2 : far < 10) {X : Mem} (hX : X.all (Cell.lo 0) = true) : ∃ q d', D57.Ok b d' ∧ Rb 20 q ∧ m__law_number [.rf (B.length + 2), .int far] (M57 B ones d ++ X) = some (eF q, M57 B ones d' ++ X) := by
  obtain ⟨v, d1, o1, v1, v2, e1⟩ := take57 hB ho (b := b + 1) h (many := 6) (by decide) (by decide) (X := X ++ [.lst [D.int 1, .int 1, .int 1, .int 1, .int 2, .int 3]]) (all_app hX rfl)
  obtain ⟨w, w1, w2, ew⟩ := below57 v1 v2
  have l6 : ∀ d', lstAt (M57 B ones d' ++ (X ++ [.lst [D.int 1, .int 1, .int 1, .int 1, .int 2, .int 3]])) (M57 B ones d ++ X).length = some [D.int 1, .int 1, .int 1, .int 1, .int 2, .int 3] := fun d' => by
    rw [← List.append_assoc, show (M57 B ones d ++ X).length = (M57 B ones d' ++ X).length by simp [M57]]
    exact lstAt_of (new_at0 [] rfl)
  have fw0 : 0 < far * w := Int.mul_pos f1 (by omega)
  have fw1 : far * w ≤ 9 * 3 := Int.mul_le_mul (by omega) w2 (by omega) (by decide)
  obtain ⟨u, d2, o2, u1, u2, e2⟩ := take57 hB ho (b := b) o1 (many := 2 * far * w + 1) (by rw [Int.mul_assoc]; omega) (by rw [Int.mul_assoc]; omega) (X := X ++ [.lst [D.int 1, .int 1, .int 1, .int 1, .int 2, .int 3]]) (all_app hX rfl)
  have b1 : Bt 10 (2 : Int) := bt_abs (by decide) (by decide)
  have b2 : Bt 10 far := bt_abs (by omega) (by omega)
  have b3 : Bt 10 w := bt_abs (by omega) (by omega)
  have b4 : Bt 10 (2 * far) := bt_abs (by omega) (by omega)
  have m1 := mulE (mul_bt b1 b2 (by decide))
  have m2 := mulE (mul_bt b4 b3 (by decide))
  have m3 := mulE (mul_bt b2 b3 (by decide))
  have pt := part57 (a := u - far * w) (b := w) (by omega) ((bt_abs (m := 10) (by omega) (by omega)).mono (by decide))
  have un : u < 2 * (far * w) + 1 := by rw [← Int.mul_assoc]; exact u2
  refine ⟨Rat.divInt (u - far * w) w, d2, o2, (rb_div (n := 19) (by omega) (bt_abs (by omega) (by omega)) (bt_abs (by omega) (by omega))).mono (by decide), ?_⟩
  rw [e__law_number]
  unfold b__law_number
  simp only [↓ev_V, ↓ev_C, ↓ev_O, ↓ev_U, ↓ev_Nil, ↓ev_Cons, ↓ev_L, ↓ev_If, ↓ev_tV, ↓ev_tTr, ↓ev_tAn, ↓ev_tOr, ↓ev_tNo, ↓ev_NotB, ↓ev_AnB, ↓ev_OrB, ↓ev_Tup, ↓ev_Lst, ↓ev_CP, ↓ev_ML, ↓ev_Sli, ↓ev_oN, ↓ev_oS, ↓ev_Ch, ↓ev_gN, ↓ev_gsNil, ↓ev_gsCons, ↓ev_gT, ↓ev_Seq, ↓ev_Asg, ↓ev_Par, ↓ev_Ret, ↓ev_Drop, ↓ev_sIf, ↓ev_Next, ↓ev_Brk, ↓ev_Cont, ↓ev_RetN, ↓ev_Sub, ↓ev_For, ↓ev_body, ↓ev_iE, ↓ev_iR1, ↓ev_iR2, ↓ev_iZ, ↓ev_iEn, ↓ev_item, ↓ev_Lc, ↓ev_Yes, ↓ev_Par3, ↓ev_As2, ↓ev_As4, ↓ev_CV, ↓ev_Fld, ↓ev_Mk, ↓ev_Mk0, ↓ev_Mt, ↓ev_ForM, ↓ev_bodyM, ↓ev_gTmT, ↓ev_gTmR, ↓ev_AsgM, ↓ev_Star, ↓ev_Dc, ↓ev_iRr, ↓ev_iRv, ↓ev_iZ3, ↓ev_iZ4, ↓ev_LR2, kForM_e, kAsgM_e, kSt1_e, kSt2_e, kSt3_e, seqT, seqRf, popRf, insRf, inE, notInE, kDc_e, kRr_e, kRv_e, revT, revL, vOf_e, kO_e, kO2_e, kU_e, kCons_e, kCons2_e, kL_e, kIf_t, kIf_f, kB_e, kTr_e, kTr2_e, kAn_t, kAn_f, kOr_t, kOr_f, kNo_e, kNotB_e, kAnB_t, kAnB_f, kOrB_t, kOrB_f, kTup_e, kLst_e, kCP_e, kD_e, kML_e, kML2_e, kS1_e, kS2_e, kS3_e, kI_e, kCh1_e, kCh2_e, kCh3_t, kCh3_f, kAsg_e, kNx_e, kRet_e, kDrop_e, kSif_t, kSif_f, kSub1_e, kSub2_e, kSub3_e, kNxM_e, kFor_e, kBody_e, kIE_e, kSrc_e, kR1_e, kR2_e, kR2b_e, kZ1_e, kZ2_e, kEn_e, kMap_e, kMap2_e, kIt1_e, kIt2_t, kIt2_f, kSome_e, kLc_e, kLc2_e, kGc_e, par3_e, kAs2_e, kAs3_e, kAs4_e, kAs5_e, kAs6_e, fnOf2_e, fnV_e, kCV_e, kFld1_e, kFld2_e, kMk_e, kMk2_e, kMt_e, kMt2_e, kMt3_e, gFldE, setFE, metE, insAt_zero, insAt_succ, ob_s, ob_n, then_nx, then_rt, then_bk, then_ct, par2_e, turn_nx, turn_ct, turn_bk, turn_rt, runT_nil, runT_cons, mapT_nil, mapT_cons, finP_nx, finM_rt, finM_nx, addE, subE, negE, cmpE, ixT, truI, truB, at0, at1, at2, at3, List.getElem?_cons_zero, List.getElem?_cons_succ, List.set_cons_zero, List.set_cons_succ, List.length_cons, List.length_nil, Nat.reduceAdd, Nat.reduceLeDiff, if_true, if_false, reduceIte, reduceCtorEq, id_eq, Bool.not_true, Bool.not_false, Bool.false_eq_true, and_self, Int.reduceLE, Int.reduceLT, Int.reduceNeg, decide_true, decide_false, Option.toList_some, Option.toList_none, List.cons_append, List.nil_append, ixRf, tupRf, lenRf, listRf, isLstRf, appRf, revRf, setRf, itemsRf, itemsT, itemsL, zipT, zipRf, allRf, anyRf, sumRf, tupT, slRf, isiE, t2E, lenT, lstAt_zero, lstAt_succ, Option.isSome_some, Nat.reduceLT, Bool.or_true, Bool.or_false, Bool.true_or, Bool.false_or, gIsN, gNotN, D.isNon, wipeD, isBlE, notBlE, min1Rf, kZa_e, kZb_e, kZc_e, kZd_e, kZe_e, kZa4_e, kZb4_e, kLRa_e, kLRb_e, zip3T, zip4T, List.append_assoc, e1, l6, ew, m1, m2, m3, e2, pt, gc57 hB hX d _ (lo_eF _ _)]
theorem point57 (hB : B.all (Cell.lo B.length) = true) (ho : 0 < ones.length) {b : Nat} {d : D57} (h : d.Ok (b + 6)) {far : Int} (f1 : 0 < far) (f2 : far < 10) {X : Mem} (hX : X.all (Cell.lo 0) = true) : ∃ x y z d', D57.Ok b d' ∧ Rb 20 x ∧ Rb 20 y ∧ Rb 20 z ∧ m__law_point [.rf (B.length + 2), .int far] (M57 B ones d ++ X) = some (eP57 x y z, M57 B ones d' ++ X) := by
  obtain ⟨x, d1, o1, x1, e1⟩ := number57 hB ho (b := b + 4) h f1 f2 hX
  obtain ⟨y, d2, o2, y1, e2⟩ := number57 hB ho (b := b + 2) o1 f1 f2 hX
  obtain ⟨z, d3, o3, z1, e3⟩ := number57 hB ho (b := b) o2 f1 f2 hX
  have g := gc57 (ones := ones) hB hX d d3 (v := eP57 x y z) rfl []
  rw [List.append_nil] at g
  refine ⟨x, y, z, d3, o3, x1, y1, z1, ?_⟩
  rw [e__law_point]
  unfold b__law_point
  simp only [↓ev_V, ↓ev_C, ↓ev_O, ↓ev_U, ↓ev_Nil, ↓ev_Cons, ↓ev_L, ↓ev_If, ↓ev_tV, ↓ev_tTr, ↓ev_tAn, ↓ev_tOr, ↓ev_tNo, ↓ev_NotB, ↓ev_AnB, ↓ev_OrB, ↓ev_Tup, ↓ev_Lst, ↓ev_CP, ↓ev_ML, ↓ev_Sli, ↓ev_oN, ↓ev_oS, ↓ev_Ch, ↓ev_gN, ↓ev_gsNil, ↓ev_gsCons, ↓ev_gT, ↓ev_Seq, ↓ev_Asg, ↓ev_Par, ↓ev_Ret, ↓ev_Drop, ↓ev_sIf, ↓ev_Next, ↓ev_Brk, ↓ev_Cont, ↓ev_RetN, ↓ev_Sub, ↓ev_For, ↓ev_body, ↓ev_iE, ↓ev_iR1, ↓ev_iR2, ↓ev_iZ, ↓ev_iEn, ↓ev_item, ↓ev_Lc, ↓ev_Yes, ↓ev_Par3, ↓ev_As2, ↓ev_As4, ↓ev_CV, ↓ev_Fld, ↓ev_Mk, ↓ev_Mk0, ↓ev_Mt, ↓ev_ForM, ↓ev_bodyM, ↓ev_gTmT, ↓ev_gTmR, ↓ev_AsgM, ↓ev_Star, ↓ev_Dc, ↓ev_iRr, ↓ev_iRv, ↓ev_iZ3, ↓ev_iZ4, ↓ev_LR2, kForM_e, kAsgM_e, kSt1_e, kSt2_e, kSt3_e, seqT, seqRf, popRf, insRf, inE, notInE, kDc_e, kRr_e, kRv_e, revT, revL, vOf_e, kO_e, kO2_e, kU_e, kCons_e, kCons2_e, kL_e, kIf_t, kIf_f, kB_e, kTr_e, kTr2_e, kAn_t, kAn_f, kOr_t, kOr_f, kNo_e, kNotB_e, kAnB_t, kAnB_f, kOrB_t, kOrB_f, kTup_e, kLst_e, kCP_e, kD_e, kML_e, kML2_e, kS1_e, kS2_e, kS3_e, kI_e, kCh1_e, kCh2_e, kCh3_t, kCh3_f, kAsg_e, kNx_e, kRet_e, kDrop_e, kSif_t, kSif_f, kSub1_e, kSub2_e, kSub3_e, kNxM_e, kFor_e, kBody_e, kIE_e, kSrc_e, kR1_e, kR2_e, kR2b_e, kZ1_e, kZ2_e, kEn_e, kMap_e, kMap2_e, kIt1_e, kIt2_t, kIt2_f, kSome_e, kLc_e, kLc2_e, kGc_e, par3_e, kAs2_e, kAs3_e, kAs4_e, kAs5_e, kAs6_e, fnOf2_e, fnV_e, kCV_e, kFld1_e, kFld2_e, kMk_e, kMk2_e, kMt_e, kMt2_e, kMt3_e, gFldE, setFE, metE, insAt_zero, insAt_succ, ob_s, ob_n, then_nx, then_rt, then_bk, then_ct, par2_e, turn_nx, turn_ct, turn_bk, turn_rt, runT_nil, runT_cons, mapT_nil, mapT_cons, finP_nx, finM_rt, finM_nx, addE, subE, negE, cmpE, ixT, truI, truB, at0, at1, at2, at3, List.getElem?_cons_zero, List.getElem?_cons_succ, List.set_cons_zero, List.set_cons_succ, List.length_cons, List.length_nil, Nat.reduceAdd, Nat.reduceLeDiff, if_true, if_false, reduceIte, reduceCtorEq, id_eq, Bool.not_true, Bool.not_false, Bool.false_eq_true, and_self, Int.reduceLE, Int.reduceLT, Int.reduceNeg, decide_true, decide_false, Option.toList_some, Option.toList_none, List.cons_append, List.nil_append, ixRf, tupRf, lenRf, listRf, isLstRf, appRf, revRf, setRf, itemsRf, itemsT, itemsL, zipT, zipRf, allRf, anyRf, sumRf, tupT, slRf, isiE, t2E, lenT, lstAt_zero, lstAt_succ, Option.isSome_some, Nat.reduceLT, Bool.or_true, Bool.or_false, Bool.true_or, Bool.false_or, gIsN, gNotN, D.isNon, wipeD, isBlE, notBlE, min1Rf, kZa_e, kZb_e, kZc_e, kZd_e, kZe_e, kZa4_e, kZb4_e, kLRa_e, kLRb_e, zip3T, zip4T, e1, e2, e3]
  exact congrArg some g
end

/-! ### comprehensions by what holds between two of their turns -/
theorem W.map {gd : Mem → Prop} {it : D → Mem → Option (Option D × Mem)} {β : Type} {Q : β → Prop} {f : List D × Mem → Option β} (I : Nat → List D → Mem → Prop) {ds : List D} {M : Mem} (h0 : I 0 [] M) (hg : ∀ i l M, I i l M → gd M)
    (step : ∀ (j : Nat) (d : D), ds[j]? = some d → ∀ l M, I j l M → W (it d M) fun y => I (j + 1) (l ++ y.1.toList) y.2) (k : ∀ l M', I ds.length l M' → W (f (l, M')) Q) : W (ob (mapG gd it ds M) f) Q := by
  have key : ∀ (r : List D) (n : Nat) (l : List D) (M : Mem), (∀ (j : Nat) (d : D), r[j]? = some d → ds[n + j]? = some d) → I n l M → ∃ l' M', mapG gd it r M = some (l', M') ∧ I (n + r.length) (l ++ l') M' := by
    intro r
    induction r with
    | nil => exact fun n l M _ i => ⟨[], M, mapG_nil _ _ _ (hg n l M i), by rw [List.append_nil]; exact i⟩
    | cons d r ih =>
      intro n l M hl i
      obtain ⟨⟨o, M1⟩, e, i1⟩ := step n d (hl 0 d rfl) l M i
      obtain ⟨l2, M2, e2, i2⟩ := ih (n + 1) (l ++ o.toList) M1 (fun j d' hd => by
        have := hl (j + 1) d' (by simpa using hd)
        rw [show n + (j + 1) = n + 1 + j by omega] at this
        exact this) i1
      refine ⟨o.toList ++ l2, M2, ?_, by rw [List.length_cons, show n + (r.length + 1) = n + 1 + r.length by omega, ← List.append_assoc]; exact i2⟩
      rw [mapG_cons _ _ _ _ _ (hg n l M i), e]
      show ob (mapG gd it r M1) _ = _
      rw [e2]
      rfl
  obtain ⟨l', M', e, i⟩ := key ds 0 [] M (fun j d hd => by simpa using hd) h0
  rw [Nat.zero_add, List.nil_append] at i
  obtain ⟨z, e2, q⟩ := k l' M' i
  exact ⟨z, by rw [e]; exact e2, q⟩
/- a loop that may return -/
theorem map_opt {α : Type} {gd : Mem → Prop} {it : D → Mem → Option (Option D × Mem)} {enc g : α → D} {p : α → Bool} {M : Mem} (gg : gd M) : ∀ l : List α, (∀ a ∈ l, it (enc a) M = some (if p a = true then some (g a) else none, M)) → mapG gd it (l.map enc) M = some ((l.filter p).map g, M)
  | [], _ => mapG_nil _ _ _ gg
  | d :: ds, h => by
    rw [List.map_cons, mapG_cons _ _ _ _ _ gg, h d List.mem_cons_self]
    show ob (mapG gd it (ds.map enc) M) _ = _
    rw [map_opt gg ds fun d' hd => h d' (List.mem_cons_of_mem _ hd), List.filter_cons]
    cases p d <;> rfl
/-! ### k57: the deck laid out -/
def ones57 (ns : List Int) : List Int := ns.map (fun x => if x < 0 then -x else x) ++ List.replicate (if ns = [] then 1 else 0) 3
def B57 (ns : List Int) : Mem := [.lst ((ns.map fun x => if x < 0 then -x else x).map D.int), .lst [D.int 3], .lst ((List.replicate (if ns = [] then 1 else 0) (3 : Int)).map D.int)]
def d57 (ns : List Int) : D57 := ⟨(ones57 ns).filter fun x => decide (10 ^ 18 ≤ x), 0, 0⟩
theorem ones57_pos (ns : List Int) : 0 < (ones57 ns).length := by
  unfold ones57
  cases ns <;> simp
theorem d57_ok (ns : List Int) (hl : ns.length ≤ 63) : (d57 ns).Ok 100000 := by
  refine ⟨fun x hx => ?_, ?_, Nat.le_refl _⟩
  · obtain ⟨_, h2⟩ := List.mem_filter.mp hx
    have := of_decide_eq_true h2
    omega
  · have h1 := List.length_filter_le (fun x : Int => decide (10 ^ 18 ≤ x)) (ones57 ns)
    have h2 : (ones57 ns).length ≤ 64 := by
      unfold ones57
      cases ns with
      | nil => simp
      | cons a l => simp at hl ⊢; omega
    show (List.filter _ _).length ≤ 1000
    omega
theorem mul57 {l : Nat} {M : Mem} {k : Nat} (hk : k ≤ 1) (h : M[l]? = some (.lst [D.int 3])) : gMul (.rf l) (.int (k : Nat)) M = some (.rf M.length, M ++ [.lst ((List.replicate k (3 : Int)).map D.int)]) := by
  have : k = 0 ∨ k = 1 := by omega
  rcases this with rfl | rfl <;> simp [gMul, h]
theorem deck57 (ns : List Int) (hl : ns.length ≤ 63) : m__law_deck [.rol (ns.map D.int)] [] = some (.rf 5, M57 (B57 ns) (ones57 ns) (d57 ns)) := by
  obtain ⟨as, has⟩ : ∃ as, as = ns.map fun x => if x < 0 then -x else x := ⟨_, rfl⟩
  have al : as.length ≤ 63 := by rw [has]; simpa using hl
  have m1 : ∀ (x1 : Option D) (M : Mem), mapG (fun _ => True) (itemG (gN 2) tYesD (fL bAbs (fCons (fV 2) fNil)) [some (.rol (ns.map D.int)), x1, none]) (ns.map D.int) M = some (as.map D.int, M) := fun x1 M => by
    have := map_opt (gd := fun _ => True) (it := itemG (gN 2) tYesD (fL bAbs (fCons (fV 2) fNil)) [some (.rol (ns.map D.int)), x1, none]) (enc := D.int) (g := fun x => D.int (if x < 0 then -x else x)) (p := fun _ => true) (M := M) trivial ns fun a _ => by
      simp only [↓ev_V, ↓ev_C, ↓ev_O, ↓ev_U, ↓ev_Nil, ↓ev_Cons, ↓ev_L, ↓ev_If, ↓ev_tV, ↓ev_tTr, ↓ev_tAn, ↓ev_tOr, ↓ev_tNo, ↓ev_NotB, ↓ev_AnB, ↓ev_OrB, ↓ev_Tup, ↓ev_Lst, ↓ev_CP, ↓ev_ML, ↓ev_Sli, ↓ev_oN, ↓ev_oS, ↓ev_Ch, ↓ev_gN, ↓ev_gsNil, ↓ev_gsCons, ↓ev_gT, ↓ev_Seq, ↓ev_Asg, ↓ev_Par, ↓ev_Ret, ↓ev_Drop, ↓ev_sIf, ↓ev_Next, ↓ev_Brk, ↓ev_Cont, ↓ev_RetN, ↓ev_Sub, ↓ev_For, ↓ev_body, ↓ev_iE, ↓ev_iR1, ↓ev_iR2, ↓ev_iZ, ↓ev_iEn, ↓ev_item, ↓ev_Lc, ↓ev_Yes, ↓ev_Par3, ↓ev_As2, ↓ev_As4, ↓ev_CV, ↓ev_Fld, ↓ev_Mk, ↓ev_Mk0, ↓ev_Mt, ↓ev_ForM, ↓ev_bodyM, ↓ev_gTmT, ↓ev_gTmR, ↓ev_AsgM, ↓ev_Star, ↓ev_Dc, ↓ev_iRr, ↓ev_iRv, ↓ev_iZ3, ↓ev_iZ4, ↓ev_LR2, kForM_e, kAsgM_e, kSt1_e, kSt2_e, kSt3_e, seqT, seqRf, popRf, insRf, inE, notInE, kDc_e, kRr_e, kRv_e, revT, revL, vOf_e, kO_e, kO2_e, kU_e, kCons_e, kCons2_e, kL_e, kIf_t, kIf_f, kB_e, kTr_e, kTr2_e, kAn_t, kAn_f, kOr_t, kOr_f, kNo_e, kNotB_e, kAnB_t, kAnB_f, kOrB_t, kOrB_f, kTup_e, kLst_e, kCP_e, kD_e, kML_e, kML2_e, kS1_e, kS2_e, kS3_e, kI_e, kCh1_e, kCh2_e, kCh3_t, kCh3_f, kAsg_e, kNx_e, kRet_e, kDrop_e, kSif_t, kSif_f, kSub1_e, kSub2_e, kSub3_e, kNxM_e, kFor_e, kBody_e, kIE_e, kSrc_e, kR1_e, kR2_e, kR2b_e, kZ1_e, kZ2_e, kEn_e, kMap_e, kMap2_e, kIt1_e, kIt2_t, kIt2_f, kSome_e, kLc_e, kLc2_e, kGc_e, par3_e, kAs2_e, kAs3_e, kAs4_e, kAs5_e, kAs6_e, fnOf2_e, fnV_e, kCV_e, kFld1_e, kFld2_e, kMk_e, kMk2_e, kMt_e, kMt2_e, kMt3_e, gFldE, setFE, metE, insAt_zero, insAt_succ, ob_s, ob_n, then_nx, then_rt, then_bk, then_ct, par2_e, turn_nx, turn_ct, turn_bk, turn_rt, runT_nil, runT_cons, mapT_nil, mapT_cons, finP_nx, finM_rt, finM_nx, addE, subE, negE, cmpE, ixT, truI, truB, at0, at1, at2, at3, List.getElem?_cons_zero, List.getElem?_cons_succ, List.set_cons_zero, List.set_cons_succ, List.length_cons, List.length_nil, Nat.reduceAdd, Nat.reduceLeDiff, if_true, if_false, reduceIte, reduceCtorEq, id_eq, Bool.not_true, Bool.not_false, Bool.false_eq_true, and_self, Int.reduceLE, Int.reduceLT, Int.reduceNeg, decide_true, decide_false, Option.toList_some, Option.toList_none, List.cons_append, List.nil_append, ixRf, tupRf, lenRf, listRf, isLstRf, appRf, revRf, setRf, itemsRf, itemsT, itemsL, zipT, zipRf, allRf, anyRf, sumRf, tupT, slRf, isiE, t2E, lenT, lstAt_zero, lstAt_succ, Option.isSome_some, Nat.reduceLT, Bool.or_true, Bool.or_false, Bool.true_or, Bool.false_or, gIsN, gNotN, D.isNon, wipeD, isBlE, notBlE, min1Rf, kZa_e, kZb_e, kZc_e, kZd_e, kZe_e, kZa4_e, kZb4_e, kLRa_e, kLRb_e, zip3T, zip4T, absE]
    rw [this, List.filter_eq_self.mpr (fun _ _ => rfl), has, List.map_map]
    rfl
  have ll : (ns.map D.int).length ≤ 100000 := by simp; omega
  have hln : ((ns.map D.int).length : Int) = (ns.length : Nat) := by simp
  obtain ⟨k, hk⟩ : ∃ k : Nat, k = if ns = [] then 1 else 0 := ⟨_, rfl⟩
  have k1 : k ≤ 1 := by rw [hk]; split <;> omega
  have bi : ∀ M, bInt [.bl (((ns.length : Nat) : Int) == 0)] M = some (.int (k : Nat), M) := fun M => by
    cases ns with
    | nil => rw [hk]; rfl
    | cons a l =>
      have : ((((a :: l).length : Nat) : Int) == 0) = false := by
        rw [beq_eq_false_iff_ne]
        simp
        omega
      rw [this, hk]
      rfl
  obtain ⟨os, hos⟩ : ∃ os, os = as ++ List.replicate k (3 : Int) := ⟨_, rfl⟩
  have ho : as.map D.int ++ (List.replicate k (3 : Int)).map D.int = os.map D.int := by rw [hos, List.map_append]
  have eo : ones57 ns = os := by
    unfold ones57
    rw [hos, has, hk]
  have ol : os.length ≤ 64 := by rw [hos]; simp; omega
  have mu := mul57 (l := 1) (M := [.lst (as.map D.int), .lst [D.int 3]]) k1 rfl
  have pw := powE (i := 10) (j := 18) ⟨by decide, by decide, by decide⟩
  have q3 : ∀ X : Mem, lstAt (Cell.lst (as.map D.int) :: Cell.lst [D.int 3] :: Cell.lst ((List.replicate k (3 : Int)).map D.int) :: Cell.lst (os.map D.int) :: X) 3 = some (os.map D.int) := fun X => rfl
  have i3 : ∀ X : Mem, itemsOf (.rf 3) (Cell.lst (as.map D.int) :: Cell.lst [D.int 3] :: Cell.lst ((List.replicate k (3 : Int)).map D.int) :: Cell.lst (os.map D.int) :: X) = some (os.map D.int, fun M' => M'[3]? = some (.lst (os.map D.int))) := fun X => rfl
  have m2 : mapG (fun M' => M'[3]? = some (.lst (os.map D.int))) (itemG (gN 2) (tV (fO gGe (fV 2) (fO gPow (fC (.int 10)) (fC (.int 18))))) (fV 2) [some (.rol (ns.map D.int)), some (.rf 3), none]) (os.map D.int) [.lst (as.map D.int), .lst [D.int 3], .lst ((List.replicate k (3 : Int)).map D.int), .lst (os.map D.int)] = some ((os.filter fun x => decide (10 ^ 18 ≤ x)).map D.int, [.lst (as.map D.int), .lst [D.int 3], .lst ((List.replicate k (3 : Int)).map D.int), .lst (os.map D.int)]) :=
    map_opt (gd := fun M' => M'[3]? = some (.lst (os.map D.int))) (enc := D.int) (g := D.int) (p := fun x => decide (10 ^ 18 ≤ x)) rfl os fun a _ => by
      by_cases c : (10 : Int) ^ 18 ≤ a
      · simp only [↓ev_V, ↓ev_C, ↓ev_O, ↓ev_U, ↓ev_Nil, ↓ev_Cons, ↓ev_L, ↓ev_If, ↓ev_tV, ↓ev_tTr, ↓ev_tAn, ↓ev_tOr, ↓ev_tNo, ↓ev_NotB, ↓ev_AnB, ↓ev_OrB, ↓ev_Tup, ↓ev_Lst, ↓ev_CP, ↓ev_ML, ↓ev_Sli, ↓ev_oN, ↓ev_oS, ↓ev_Ch, ↓ev_gN, ↓ev_gsNil, ↓ev_gsCons, ↓ev_gT, ↓ev_Seq, ↓ev_Asg, ↓ev_Par, ↓ev_Ret, ↓ev_Drop, ↓ev_sIf, ↓ev_Next, ↓ev_Brk, ↓ev_Cont, ↓ev_RetN, ↓ev_Sub, ↓ev_For, ↓ev_body, ↓ev_iE, ↓ev_iR1, ↓ev_iR2, ↓ev_iZ, ↓ev_iEn, ↓ev_item, ↓ev_Lc, ↓ev_Yes, ↓ev_Par3, ↓ev_As2, ↓ev_As4, ↓ev_CV, ↓ev_Fld, ↓ev_Mk, ↓ev_Mk0, ↓ev_Mt, ↓ev_ForM, ↓ev_bodyM, ↓ev_gTmT, ↓ev_gTmR, ↓ev_AsgM, ↓ev_Star, ↓ev_Dc, ↓ev_iRr, ↓ev_iRv, ↓ev_iZ3, ↓ev_iZ4, ↓ev_LR2, kForM_e, kAsgM_e, kSt1_e, kSt2_e, kSt3_e, seqT, seqRf, popRf, insRf, inE, notInE, kDc_e, kRr_e, kRv_e, revT, revL, vOf_e, kO_e, kO2_e, kU_e, kCons_e, kCons2_e, kL_e, kIf_t, kIf_f, kB_e, kTr_e, kTr2_e, kAn_t, kAn_f, kOr_t, kOr_f, kNo_e, kNotB_e, kAnB_t, kAnB_f, kOrB_t, kOrB_f, kTup_e, kLst_e, kCP_e, kD_e, kML_e, kML2_e, kS1_e, kS2_e, kS3_e, kI_e, kCh1_e, kCh2_e, kCh3_t, kCh3_f, kAsg_e, kNx_e, kRet_e, kDrop_e, kSif_t, kSif_f, kSub1_e, kSub2_e, kSub3_e, kNxM_e, kFor_e, kBody_e, kIE_e, kSrc_e, kR1_e, kR2_e, kR2b_e, kZ1_e, kZ2_e, kEn_e, kMap_e, kMap2_e, kIt1_e, kIt2_t, kIt2_f, kSome_e, kLc_e, kLc2_e, kGc_e, par3_e, kAs2_e, kAs3_e, kAs4_e, kAs5_e, kAs6_e, fnOf2_e, fnV_e, kCV_e, kFld1_e, kFld2_e, kMk_e, kMk2_e, kMt_e, kMt2_e, kMt3_e, gFldE, setFE, metE, insAt_zero, insAt_succ, ob_s, ob_n, then_nx, then_rt, then_bk, then_ct, par2_e, turn_nx, turn_ct, turn_bk, turn_rt, runT_nil, runT_cons, mapT_nil, mapT_cons, finP_nx, finM_rt, finM_nx, addE, subE, negE, cmpE, ixT, truI, truB, at0, at1, at2, at3, List.getElem?_cons_zero, List.getElem?_cons_succ, List.set_cons_zero, List.set_cons_succ, List.length_cons, List.length_nil, Nat.reduceAdd, Nat.reduceLeDiff, if_true, if_false, reduceIte, reduceCtorEq, id_eq, Bool.not_true, Bool.not_false, Bool.false_eq_true, and_self, Int.reduceLE, Int.reduceLT, Int.reduceNeg, decide_true, decide_false, Option.toList_some, Option.toList_none, List.cons_append, List.nil_append, ixRf, tupRf, lenRf, listRf, isLstRf, appRf, revRf, setRf, itemsRf, itemsT, itemsL, zipT, zipRf, allRf, anyRf, sumRf, tupT, slRf, isiE, t2E, lenT, lstAt_zero, lstAt_succ, Option.isSome_some, Nat.reduceLT, Bool.or_true, Bool.or_false, Bool.true_or, Bool.false_or, gIsN, gNotN, D.isNon, wipeD, isBlE, notBlE, min1Rf, kZa_e, kZb_e, kZc_e, kZd_e, kZe_e, kZa4_e, kZb4_e, kLRa_e, kLRb_e, zip3T, zip4T, pw, show (18 : Int).toNat = 18 from rfl, decide_eq_true c]
      · simp only [↓ev_V, ↓ev_C, ↓ev_O, ↓ev_U, ↓ev_Nil, ↓ev_Cons, ↓ev_L, ↓ev_If, ↓ev_tV, ↓ev_tTr, ↓ev_tAn, ↓ev_tOr, ↓ev_tNo, ↓ev_NotB, ↓ev_AnB, ↓ev_OrB, ↓ev_Tup, ↓ev_Lst, ↓ev_CP, ↓ev_ML, ↓ev_Sli, ↓ev_oN, ↓ev_oS, ↓ev_Ch, ↓ev_gN, ↓ev_gsNil, ↓ev_gsCons, ↓ev_gT, ↓ev_Seq, ↓ev_Asg, ↓ev_Par, ↓ev_Ret, ↓ev_Drop, ↓ev_sIf, ↓ev_Next, ↓ev_Brk, ↓ev_Cont, ↓ev_RetN, ↓ev_Sub, ↓ev_For, ↓ev_body, ↓ev_iE, ↓ev_iR1, ↓ev_iR2, ↓ev_iZ, ↓ev_iEn, ↓ev_item, ↓ev_Lc, ↓ev_Yes, ↓ev_Par3, ↓ev_As2, ↓ev_As4, ↓ev_CV, ↓ev_Fld, ↓ev_Mk, ↓ev_Mk0, ↓ev_Mt, ↓ev_ForM, ↓ev_bodyM, ↓ev_gTmT, ↓ev_gTmR, ↓ev_AsgM, ↓ev_Star, ↓ev_Dc, ↓ev_iRr, ↓ev_iRv, ↓ev_iZ3, ↓ev_iZ4, ↓ev_LR2, kForM_e, kAsgM_e, kSt1_e, kSt2_e, kSt3_e, seqT, seqRf, popRf, insRf, inE, notInE, kDc_e, kRr_e, kRv_e, revT, revL, vOf_e, kO_e, kO2_e, kU_e, kCons_e, kCons2_e, kL_e, kIf_t, kIf_f, kB_e, kTr_e, kTr2_e, kAn_t, kAn_f, kOr_t, kOr_f, kNo_e, kNotB_e, kAnB_t, kAnB_f, kOrB_t, kOrB_f, kTup_e, kLst_e, kCP_e, kD_e, kML_e, kML2_e, kS1_e, kS2_e, kS3_e, kI_e, kCh1_e, kCh2_e, kCh3_t, kCh3_f, kAsg_e, kNx_e, kRet_e, kDrop_e, kSif_t, kSif_f, kSub1_e, kSub2_e, kSub3_e, kNxM_e, kFor_e, kBody_e, kIE_e, kSrc_e, kR1_e, kR2_e, kR2b_e, kZ1_e, kZ2_e, kEn_e, kMap_e, kMap2_e, kIt1_e, kIt2_t, kIt2_f, kSome_e, kLc_e, kLc2_e, kGc_e, par3_e, kAs2_e, kAs3_e, kAs4_e, kAs5_e, kAs6_e, fnOf2_e, fnV_e, kCV_e, kFld1_e, kFld2_e, kMk_e, kMk2_e, kMt_e, kMt2_e, kMt3_e, gFldE, setFE, metE, insAt_zero, insAt_succ, ob_s, ob_n, then_nx, then_rt, then_bk, then_ct, par2_e, turn_nx, turn_ct, turn_bk, turn_rt, runT_nil, runT_cons, mapT_nil, mapT_cons, finP_nx, finM_rt, finM_nx, addE, subE, negE, cmpE, ixT, truI, truB, at0, at1, at2, at3, List.getElem?_cons_zero, List.getElem?_cons_succ, List.set_cons_zero, List.set_cons_succ, List.length_cons, List.length_nil, Nat.reduceAdd, Nat.reduceLeDiff, if_true, if_false, reduceIte, reduceCtorEq, id_eq, Bool.not_true, Bool.not_false, Bool.false_eq_true, and_self, Int.reduceLE, Int.reduceLT, Int.reduceNeg, decide_true, decide_false, Option.toList_some, Option.toList_none, List.cons_append, List.nil_append, ixRf, tupRf, lenRf, listRf, isLstRf, appRf, revRf, setRf, itemsRf, itemsT, itemsL, zipT, zipRf, allRf, anyRf, sumRf, tupT, slRf, isiE, t2E, lenT, lstAt_zero, lstAt_succ, Option.isSome_some, Nat.reduceLT, Bool.or_true, Bool.or_false, Bool.true_or, Bool.false_or, gIsN, gNotN, D.isNon, wipeD, isBlE, notBlE, min1Rf, kZa_e, kZb_e, kZc_e, kZd_e, kZe_e, kZa4_e, kZb4_e, kLRa_e, kLRb_e, zip3T, zip4T, pw, show (18 : Int).toNat = 18 from rfl, decide_eq_false c]
  have a0 : ∀ X : Mem, lstAt (Cell.lst (as.map D.int) :: X) 0 = some (as.map D.int) := fun X => rfl
  have a2 : ∀ X : Mem, lstAt (Cell.lst (as.map D.int) :: Cell.lst [D.int 3] :: Cell.lst ((List.replicate k (3 : Int)).map D.int) :: X) 2 = some ((List.replicate k (3 : Int)).map D.int) := fun X => rfl
  have sz : (as.map D.int).length + ((List.replicate k (3 : Int)).map D.int).length ≤ 100000 := by simp; omega
  have oz : (os.map D.int).length ≤ 100000 := by simp; omega
  have ad : gAdd (.rf 0) (.rf 2) [.lst (as.map D.int), .lst [D.int 3], .lst ((List.replicate k (3 : Int)).map D.int)] = some (.rf 3, [.lst (as.map D.int), .lst [D.int 3], .lst ((List.replicate k (3 : Int)).map D.int), .lst (os.map D.int)]) := by
    simp [gAdd, ← ho]
    omega
  have bl : ∀ M, bLen [.rol (ns.map D.int)] M = some (.int (ns.length : Nat), M) := fun M => by simp [bLen, seqOf]
  rw [e__law_deck]
  unfold b__law_deck
  simp only [↓ev_V, ↓ev_C, ↓ev_O, ↓ev_U, ↓ev_Nil, ↓ev_Cons, ↓ev_L, ↓ev_If, ↓ev_tV, ↓ev_tTr, ↓ev_tAn, ↓ev_tOr, ↓ev_tNo, ↓ev_NotB, ↓ev_AnB, ↓ev_OrB, ↓ev_Tup, ↓ev_Lst, ↓ev_CP, ↓ev_ML, ↓ev_Sli, ↓ev_oN, ↓ev_oS, ↓ev_Ch, ↓ev_gN, ↓ev_gsNil, ↓ev_gsCons, ↓ev_gT, ↓ev_Seq, ↓ev_Asg, ↓ev_Par, ↓ev_Ret, ↓ev_Drop, ↓ev_sIf, ↓ev_Next, ↓ev_Brk, ↓ev_Cont, ↓ev_RetN, ↓ev_Sub, ↓ev_For, ↓ev_body, ↓ev_iE, ↓ev_iR1, ↓ev_iR2, ↓ev_iZ, ↓ev_iEn, ↓ev_item, ↓ev_Lc, ↓ev_Yes, ↓ev_Par3, ↓ev_As2, ↓ev_As4, ↓ev_CV, ↓ev_Fld, ↓ev_Mk, ↓ev_Mk0, ↓ev_Mt, ↓ev_ForM, ↓ev_bodyM, ↓ev_gTmT, ↓ev_gTmR, ↓ev_AsgM, ↓ev_Star, ↓ev_Dc, ↓ev_iRr, ↓ev_iRv, ↓ev_iZ3, ↓ev_iZ4, ↓ev_LR2, kForM_e, kAsgM_e, kSt1_e, kSt2_e, kSt3_e, seqT, seqRf, popRf, insRf, inE, notInE, kDc_e, kRr_e, kRv_e, revT, revL, vOf_e, kO_e, kO2_e, kU_e, kCons_e, kCons2_e, kL_e, kIf_t, kIf_f, kB_e, kTr_e, kTr2_e, kAn_t, kAn_f, kOr_t, kOr_f, kNo_e, kNotB_e, kAnB_t, kAnB_f, kOrB_t, kOrB_f, kTup_e, kLst_e, kCP_e, kD_e, kML_e, kML2_e, kS1_e, kS2_e, kS3_e, kI_e, kCh1_e, kCh2_e, kCh3_t, kCh3_f, kAsg_e, kNx_e, kRet_e, kDrop_e, kSif_t, kSif_f, kSub1_e, kSub2_e, kSub3_e, kNxM_e, kFor_e, kBody_e, kIE_e, kSrc_e, kR1_e, kR2_e, kR2b_e, kZ1_e, kZ2_e, kEn_e, kMap_e, kMap2_e, kIt1_e, kIt2_t, kIt2_f, kSome_e, kLc_e, kLc2_e, kGc_e, par3_e, kAs2_e, kAs3_e, kAs4_e, kAs5_e, kAs6_e, fnOf2_e, fnV_e, kCV_e, kFld1_e, kFld2_e, kMk_e, kMk2_e, kMt_e, kMt2_e, kMt3_e, gFldE, setFE, metE, insAt_zero, insAt_succ, ob_s, ob_n, then_nx, then_rt, then_bk, then_ct, par2_e, turn_nx, turn_ct, turn_bk, turn_rt, runT_nil, runT_cons, mapT_nil, mapT_cons, finP_nx, finM_rt, finM_nx, addE, subE, negE, cmpE, ixT, truI, truB, at0, at1, at2, at3, List.getElem?_cons_zero, List.getElem?_cons_succ, List.set_cons_zero, List.set_cons_succ, List.length_cons, List.length_nil, Nat.reduceAdd, Nat.reduceLeDiff, if_true, if_false, reduceIte, reduceCtorEq, id_eq, Bool.not_true, Bool.not_false, Bool.false_eq_true, and_self, Int.reduceLE, Int.reduceLT, Int.reduceNeg, decide_true, decide_false, Option.toList_some, Option.toList_none, List.cons_append, List.nil_append, ixRf, tupRf, lenRf, listRf, isLstRf, appRf, revRf, setRf, itemsRf, itemsT, itemsL, zipT, zipRf, allRf, anyRf, sumRf, tupT, slRf, isiE, t2E, lenT, lstAt_zero, lstAt_succ, Option.isSome_some, Nat.reduceLT, Bool.or_true, Bool.or_false, Bool.true_or, Bool.false_or, gIsN, gNotN, D.isNon, wipeD, isBlE, notBlE, min1Rf, kZa_e, kZb_e, kZc_e, kZd_e, kZe_e, kZa4_e, kZb4_e, kLRa_e, kLRb_e, zip3T, zip4T, m1, ll, bl, eqIb, bi, mu, ad, i3, m2, oz]
  unfold d57
  rw [eo]
  unfold B57
  rw [← has, ← hk]
  rfl

/-! ### the least or the greatest of several fractions, as the program finds it -/
def sgQ (q : Rat) : Int := if q < 0 then -1 else if 0 < q then 1 else 0
theorem sgQ_n {q : Rat} (h : q < 0) : sgQ q = -1 := if_pos h
theorem sgQ_p {q : Rat} (h : 0 < q) : sgQ q = 1 := by
  unfold sgQ
  rw [if_neg (by grind), if_pos h]
theorem sgQ_z {q : Rat} (h : q = 0) : sgQ q = 0 := by
  unfold sgQ
  rw [if_neg (by grind), if_neg (by grind)]
theorem sign_s (q : Rat) : m_sign [eF q] = some (.int (sgQ q)) := sign_e q
theorem sgQ_three (q : Rat) : (q < 0 ∧ sgQ q = -1) ∨ (q = 0 ∧ sgQ q = 0) ∨ (0 < q ∧ sgQ q = 1) := by
  by_cases h : q < 0
  · exact .inl ⟨h, sgQ_n h⟩
  · by_cases k : q = 0
    · exact .inr (.inl ⟨k, sgQ_z k⟩)
    · exact .inr (.inr ⟨by grind, sgQ_p (by grind)⟩)
def extS (s : Int) (f q : Rat) : Rat := if sgQ (q - f) = s then q else f
theorem extS_up (f q : Rat) : extS 1 f q = if f < q then q else f := by
  unfold extS
  rcases sgQ_three (q - f) with ⟨h, e⟩ | ⟨h, e⟩ | ⟨h, e⟩
  · rw [e, if_neg (by decide), if_neg (by grind)]
  · rw [e, if_neg (by decide), if_neg (by grind)]
  · rw [e, if_pos rfl, if_pos (by grind)]
theorem extS_dn (f q : Rat) : extS (-1) f q = if q < f then q else f := by
  unfold extS
  rcases sgQ_three (q - f) with ⟨h, e⟩ | ⟨h, e⟩ | ⟨h, e⟩
  · rw [e, if_pos rfl, if_pos (by grind)]
  · rw [e, if_neg (by decide), if_neg (by grind)]
  · rw [e, if_neg (by decide), if_neg (by grind)]
theorem extS_rb {n : Nat} {s : Int} {f q : Rat} (hf : Rb n f) (hq : Rb n q) : Rb n (extS s f q) := by
  unfold extS
  split
  · exact hq
  · exact hf
theorem extS_self (s : Int) (hs : s ≠ 0) (f : Rat) : extS s f f = f := by
  unfold extS
  split <;> rfl
theorem fold_rb {n : Nat} {s : Int} : ∀ {l : List Rat} {f : Rat}, Rb n f → (∀ q ∈ l, Rb n q) → Rb n (l.foldl (extS s) f)
  | [], _, hf, _ => hf
  | q :: l, _, hf, hl => fold_rb (l := l) (extS_rb hf (hl q List.mem_cons_self)) fun r hr => hl r (List.mem_cons_of_mem _ hr)
theorem ut_loop {M : Mem} {r : Nat} {xs : List D} (h : M[r]? = some (.lst xs)) (s : Int) {n : Nat} (hn : n + n ≤ 9000) : ∀ (l : List Rat) (f : Rat) (x3 : Option D), (∀ q ∈ l, Rb n q) → Rb n f → ∃ x3', runG (fun M' => M'[r]? = some (.lst xs)) (bodyG (gN 3) (sIf (tV (fO gEq (fCP m_sign (fCons (fCP m_minus (fCons (fV 3) (fCons (fV 2) fNil))) fNil)) (fV 1))) (sAsg (fV 3) (gN 2)) sNext)) (l.map eF) [some (.rf r), some (.int s), some (eF f), x3] M = some (.nx [some (.rf r), some (.int s), some (eF (l.foldl (extS s) f)), x3'], M)
  | [], f, x3, _, _ => ⟨x3, runC_nil _ _ h⟩
  | q :: l, f, x3, hl, hf => by
    have hq := hl q List.mem_cons_self
    obtain ⟨x3', e⟩ := ut_loop h s hn l (extS s f q) (some (eF q)) (fun r hr => hl r (List.mem_cons_of_mem _ hr)) (extS_rb hf hq)
    refine ⟨x3', ?_⟩
    rw [List.map_cons, runC_cons _ _ _ _ h, List.foldl_cons, ← e]
    by_cases c : sgQ (q - f) = s
    · have ex : extS s f q = q := by
        unfold extS
        rw [if_pos c]
      have cb : (sgQ (q - f) == s) = true := by simpa using c
      simp only [↓ev_V, ↓ev_C, ↓ev_O, ↓ev_U, ↓ev_Nil, ↓ev_Cons, ↓ev_L, ↓ev_If, ↓ev_tV, ↓ev_tTr, ↓ev_tAn, ↓ev_tOr, ↓ev_tNo, ↓ev_NotB, ↓ev_AnB, ↓ev_OrB, ↓ev_Tup, ↓ev_Lst, ↓ev_CP, ↓ev_ML, ↓ev_Sli, ↓ev_oN, ↓ev_oS, ↓ev_Ch, ↓ev_gN, ↓ev_gsNil, ↓ev_gsCons, ↓ev_gT, ↓ev_Seq, ↓ev_Asg, ↓ev_Par, ↓ev_Ret, ↓ev_Drop, ↓ev_sIf, ↓ev_Next, ↓ev_Brk, ↓ev_Cont, ↓ev_RetN, ↓ev_Sub, ↓ev_For, ↓ev_body, ↓ev_iE, ↓ev_iR1, ↓ev_iR2, ↓ev_iZ, ↓ev_iEn, ↓ev_item, ↓ev_Lc, ↓ev_Yes, ↓ev_Par3, ↓ev_As2, ↓ev_As4, ↓ev_CV, ↓ev_Fld, ↓ev_Mk, ↓ev_Mk0, ↓ev_Mt, ↓ev_ForM, ↓ev_bodyM, ↓ev_gTmT, ↓ev_gTmR, ↓ev_AsgM, ↓ev_Star, ↓ev_Dc, ↓ev_iRr, ↓ev_iRv, ↓ev_iZ3, ↓ev_iZ4, ↓ev_LR2, kForM_e, kAsgM_e, kSt1_e, kSt2_e, kSt3_e, seqT, seqRf, popRf, insRf, inE, notInE, kDc_e, kRr_e, kRv_e, revT, revL, vOf_e, kO_e, kO2_e, kU_e, kCons_e, kCons2_e, kL_e, kIf_t, kIf_f, kB_e, kTr_e, kTr2_e, kAn_t, kAn_f, kOr_t, kOr_f, kNo_e, kNotB_e, kAnB_t, kAnB_f, kOrB_t, kOrB_f, kTup_e, kLst_e, kCP_e, kD_e, kML_e, kML2_e, kS1_e, kS2_e, kS3_e, kI_e, kCh1_e, kCh2_e, kCh3_t, kCh3_f, kAsg_e, kNx_e, kRet_e, kDrop_e, kSif_t, kSif_f, kSub1_e, kSub2_e, kSub3_e, kNxM_e, kFor_e, kBody_e, kIE_e, kSrc_e, kR1_e, kR2_e, kR2b_e, kZ1_e, kZ2_e, kEn_e, kMap_e, kMap2_e, kIt1_e, kIt2_t, kIt2_f, kSome_e, kLc_e, kLc2_e, kGc_e, par3_e, kAs2_e, kAs3_e, kAs4_e, kAs5_e, kAs6_e, fnOf2_e, fnV_e, kCV_e, kFld1_e, kFld2_e, kMk_e, kMk2_e, kMt_e, kMt2_e, kMt3_e, gFldE, setFE, metE, insAt_zero, insAt_succ, ob_s, ob_n, then_nx, then_rt, then_bk, then_ct, par2_e, turn_nx, turn_ct, turn_bk, turn_rt, runT_nil, runT_cons, mapT_nil, mapT_cons, finP_nx, finM_rt, finM_nx, addE, subE, negE, cmpE, ixT, truI, truB, at0, at1, at2, at3, List.getElem?_cons_zero, List.getElem?_cons_succ, List.set_cons_zero, List.set_cons_succ, List.length_cons, List.length_nil, Nat.reduceAdd, Nat.reduceLeDiff, if_true, if_false, reduceIte, reduceCtorEq, id_eq, Bool.not_true, Bool.not_false, Bool.false_eq_true, and_self, Int.reduceLE, Int.reduceLT, Int.reduceNeg, decide_true, decide_false, Option.toList_some, Option.toList_none, List.cons_append, List.nil_append, ixRf, tupRf, lenRf, listRf, isLstRf, appRf, revRf, setRf, itemsRf, itemsT, itemsL, zipT, zipRf, allRf, anyRf, sumRf, tupT, slRf, isiE, t2E, lenT, lstAt_zero, lstAt_succ, Option.isSome_some, Nat.reduceLT, Bool.or_true, Bool.or_false, Bool.true_or, Bool.false_or, gIsN, gNotN, D.isNon, wipeD, isBlE, notBlE, min1Rf, kZa_e, kZb_e, kZc_e, kZd_e, kZe_e, kZa4_e, kZb4_e, kLRa_e, kLRb_e, zip3T, zip4T, minus_e hq hf hn, sign_s, eqIb, cb, ex]
    · have ex : extS s f q = f := by
        unfold extS
        rw [if_neg c]
      have cb : (sgQ (q - f) == s) = false := by simpa using c
      simp only [↓ev_V, ↓ev_C, ↓ev_O, ↓ev_U, ↓ev_Nil, ↓ev_Cons, ↓ev_L, ↓ev_If, ↓ev_tV, ↓ev_tTr, ↓ev_tAn, ↓ev_tOr, ↓ev_tNo, ↓ev_NotB, ↓ev_AnB, ↓ev_OrB, ↓ev_Tup, ↓ev_Lst, ↓ev_CP, ↓ev_ML, ↓ev_Sli, ↓ev_oN, ↓ev_oS, ↓ev_Ch, ↓ev_gN, ↓ev_gsNil, ↓ev_gsCons, ↓ev_gT, ↓ev_Seq, ↓ev_Asg, ↓ev_Par, ↓ev_Ret, ↓ev_Drop, ↓ev_sIf, ↓ev_Next, ↓ev_Brk, ↓ev_Cont, ↓ev_RetN, ↓ev_Sub, ↓ev_For, ↓ev_body, ↓ev_iE, ↓ev_iR1, ↓ev_iR2, ↓ev_iZ, ↓ev_iEn, ↓ev_item, ↓ev_Lc, ↓ev_Yes, ↓ev_Par3, ↓ev_As2, ↓ev_As4, ↓ev_CV, ↓ev_Fld, ↓ev_Mk, ↓ev_Mk0, ↓ev_Mt, ↓ev_ForM, ↓ev_bodyM, ↓ev_gTmT, ↓ev_gTmR, ↓ev_AsgM, ↓ev_Star, ↓ev_Dc, ↓ev_iRr, ↓ev_iRv, ↓ev_iZ3, ↓ev_iZ4, ↓ev_LR2, kForM_e, kAsgM_e, kSt1_e, kSt2_e, kSt3_e, seqT, seqRf, popRf, insRf, inE, notInE, kDc_e, kRr_e, kRv_e, revT, revL, vOf_e, kO_e, kO2_e, kU_e, kCons_e, kCons2_e, kL_e, kIf_t, kIf_f, kB_e, kTr_e, kTr2_e, kAn_t, kAn_f, kOr_t, kOr_f, kNo_e, kNotB_e, kAnB_t, kAnB_f, kOrB_t, kOrB_f, kTup_e, kLst_e, kCP_e, kD_e, kML_e, kML2_e, kS1_e, kS2_e, kS3_e, kI_e, kCh1_e, kCh2_e, kCh3_t, kCh3_f, kAsg_e, kNx_e, kRet_e, kDrop_e, kSif_t, kSif_f, kSub1_e, kSub2_e, kSub3_e, kNxM_e, kFor_e, kBody_e, kIE_e, kSrc_e, kR1_e, kR2_e, kR2b_e, kZ1_e, kZ2_e, kEn_e, kMap_e, kMap2_e, kIt1_e, kIt2_t, kIt2_f, kSome_e, kLc_e, kLc2_e, kGc_e, par3_e, kAs2_e, kAs3_e, kAs4_e, kAs5_e, kAs6_e, fnOf2_e, fnV_e, kCV_e, kFld1_e, kFld2_e, kMk_e, kMk2_e, kMt_e, kMt2_e, kMt3_e, gFldE, setFE, metE, insAt_zero, insAt_succ, ob_s, ob_n, then_nx, then_rt, then_bk, then_ct, par2_e, turn_nx, turn_ct, turn_bk, turn_rt, runT_nil, runT_cons, mapT_nil, mapT_cons, finP_nx, finM_rt, finM_nx, addE, subE, negE, cmpE, ixT, truI, truB, at0, at1, at2, at3, List.getElem?_cons_zero, List.getElem?_cons_succ, List.set_cons_zero, List.set_cons_succ, List.length_cons, List.length_nil, Nat.reduceAdd, Nat.reduceLeDiff, if_true, if_false, reduceIte, reduceCtorEq, id_eq, Bool.not_true, Bool.not_false, Bool.false_eq_true, and_self, Int.reduceLE, Int.reduceLT, Int.reduceNeg, decide_true, decide_false, Option.toList_some, Option.toList_none, List.cons_append, List.nil_append, ixRf, tupRf, lenRf, listRf, isLstRf, appRf, revRf, setRf, itemsRf, itemsT, itemsL, zipT, zipRf, allRf, anyRf, sumRf, tupT, slRf, isiE, t2E, lenT, lstAt_zero, lstAt_succ, Option.isSome_some, Nat.reduceLT, Bool.or_true, Bool.or_false, Bool.true_or, Bool.false_or, gIsN, gNotN, D.isNon, wipeD, isBlE, notBlE, min1Rf, kZa_e, kZb_e, kZc_e, kZd_e, kZe_e, kZa4_e, kZb4_e, kLRa_e, kLRb_e, zip3T, zip4T, minus_e hq hf hn, sign_s, eqIb, cb, ex]
theorem ut_e {M : Mem} {r : Nat} {x : Rat} {l : List Rat} (h : M[r]? = some (.lst ((x :: l).map eF))) (s : Int) {n : Nat} (hn : n + n ≤ 9000) (hx : ∀ q ∈ x :: l, Rb n q) (hs : s ≠ 0) : m_utmost [.rf r, .int s] M = some (eF (l.foldl (extS s) x), M) := by
  obtain ⟨x3', e⟩ := ut_loop h s hn (x :: l) x none hx (hx x List.mem_cons_self)
  rw [List.foldl_cons, extS_self s hs] at e
  have la := lstAt_of h
  have ix : atI ((x :: l).map eF) 0 = some (eF x) := at0 _ _
  rw [e_utmost]
  unfold b_utmost
  simp only [↓ev_V, ↓ev_C, ↓ev_O, ↓ev_U, ↓ev_Nil, ↓ev_Cons, ↓ev_L, ↓ev_If, ↓ev_tV, ↓ev_tTr, ↓ev_tAn, ↓ev_tOr, ↓ev_tNo, ↓ev_NotB, ↓ev_AnB, ↓ev_OrB, ↓ev_Tup, ↓ev_Lst, ↓ev_CP, ↓ev_ML, ↓ev_Sli, ↓ev_oN, ↓ev_oS, ↓ev_Ch, ↓ev_gN, ↓ev_gsNil, ↓ev_gsCons, ↓ev_gT, ↓ev_Seq, ↓ev_Asg, ↓ev_Par, ↓ev_Ret, ↓ev_Drop, ↓ev_sIf, ↓ev_Next, ↓ev_Brk, ↓ev_Cont, ↓ev_RetN, ↓ev_Sub, ↓ev_For, ↓ev_body, ↓ev_iE, ↓ev_iR1, ↓ev_iR2, ↓ev_iZ, ↓ev_iEn, ↓ev_item, ↓ev_Lc, ↓ev_Yes, ↓ev_Par3, ↓ev_As2, ↓ev_As4, ↓ev_CV, ↓ev_Fld, ↓ev_Mk, ↓ev_Mk0, ↓ev_Mt, ↓ev_ForM, ↓ev_bodyM, ↓ev_gTmT, ↓ev_gTmR, ↓ev_AsgM, ↓ev_Star, ↓ev_Dc, ↓ev_iRr, ↓ev_iRv, ↓ev_iZ3, ↓ev_iZ4, ↓ev_LR2, kForM_e, kAsgM_e, kSt1_e, kSt2_e, kSt3_e, seqT, seqRf, popRf, insRf, inE, notInE, kDc_e, kRr_e, kRv_e, revT, revL, vOf_e, kO_e, kO2_e, kU_e, kCons_e, kCons2_e, kL_e, kIf_t, kIf_f, kB_e, kTr_e, kTr2_e, kAn_t, kAn_f, kOr_t, kOr_f, kNo_e, kNotB_e, kAnB_t, kAnB_f, kOrB_t, kOrB_f, kTup_e, kLst_e, kCP_e, kD_e, kML_e, kML2_e, kS1_e, kS2_e, kS3_e, kI_e, kCh1_e, kCh2_e, kCh3_t, kCh3_f, kAsg_e, kNx_e, kRet_e, kDrop_e, kSif_t, kSif_f, kSub1_e, kSub2_e, kSub3_e, kNxM_e, kFor_e, kBody_e, kIE_e, kSrc_e, kR1_e, kR2_e, kR2b_e, kZ1_e, kZ2_e, kEn_e, kMap_e, kMap2_e, kIt1_e, kIt2_t, kIt2_f, kSome_e, kLc_e, kLc2_e, kGc_e, par3_e, kAs2_e, kAs3_e, kAs4_e, kAs5_e, kAs6_e, fnOf2_e, fnV_e, kCV_e, kFld1_e, kFld2_e, kMk_e, kMk2_e, kMt_e, kMt2_e, kMt3_e, gFldE, setFE, metE, insAt_zero, insAt_succ, ob_s, ob_n, then_nx, then_rt, then_bk, then_ct, par2_e, turn_nx, turn_ct, turn_bk, turn_rt, runT_nil, runT_cons, mapT_nil, mapT_cons, finP_nx, finM_rt, finM_nx, addE, subE, negE, cmpE, ixT, truI, truB, at0, at1, at2, at3, List.getElem?_cons_zero, List.getElem?_cons_succ, List.set_cons_zero, List.set_cons_succ, List.length_cons, List.length_nil, Nat.reduceAdd, Nat.reduceLeDiff, if_true, if_false, reduceIte, reduceCtorEq, id_eq, Bool.not_true, Bool.not_false, Bool.false_eq_true, and_self, Int.reduceLE, Int.reduceLT, Int.reduceNeg, decide_true, decide_false, Option.toList_some, Option.toList_none, List.cons_append, List.nil_append, ixRf, tupRf, lenRf, listRf, isLstRf, appRf, revRf, setRf, itemsRf, itemsT, itemsL, zipT, zipRf, allRf, anyRf, sumRf, tupT, slRf, isiE, t2E, lenT, lstAt_zero, lstAt_succ, Option.isSome_some, Nat.reduceLT, Bool.or_true, Bool.or_false, Bool.true_or, Bool.false_or, gIsN, gNotN, D.isNon, wipeD, isBlE, notBlE, min1Rf, kZa_e, kZb_e, kZc_e, kZd_e, kZe_e, kZa4_e, kZb4_e, kLRa_e, kLRb_e, zip3T, zip4T, la, ix, e]

/-! ### k57: ways, boxes, spots, rays -/
theorem eP57_eP (x y z : Rat) : eP57 x y z = eP ⟨x, y, z⟩ := rfl
theorem rep57 (l : Nat) (M : Mem) : gMul (.rf l) (.int 3) M = ob (lstAt M l) fun ds => if ds.length ≤ 100 then some (.rf M.length, M ++ [.lst (ds ++ (ds ++ (ds ++ [])))]) else none := by
  simp only [gMul, lstAt, ob]
  cases M[l]? with
  | none => rfl
  | some c =>
    cases c with
    | lst ds =>
      simp only [Option.bind_some]
      by_cases h : ds.length ≤ 100
      · rw [if_pos h, if_pos ⟨by decide, by decide, h⟩]
        rfl
      · rw [if_neg h, if_neg fun z => h z.2.2]
    | _ => rfl
theorem eqthree {M : Mem} {i j : Nat} {a b c : Rat} (hi : M[i]? = some (.lst [eF a, eF b, eF c])) (hj : M[j]? = some (.lst [eF 0, eF 0, eF 0])) : gEq (.rf i) (.rf j) M = some (.bl (decide (a = 0 ∧ b = 0 ∧ c = 0)), M) := by
  have py : ∀ a b c : Rat, D.pys [eF a, eF b, eF c] = some [.tuple [.int a.num, .int a.den], .tuple [.int b.num, .int b.den], .tuple [.int c.num, .int c.den]] := fun _ _ _ => rfl
  rw [show gEq = gEqB false from rfl, eqR hi hj (py a b c) (py 0 0 0) rfl rfl false]
  have z : ∀ q : Rat, (q = 0) ↔ (q.num = 0 ∧ (q.den : Int) = 1) := fun q => ⟨fun e => by rw [e]; exact ⟨rfl, rfl⟩, fun ⟨h1, h2⟩ => Rat.ext h1 (by show q.den = 1; omega)⟩
  have e : PyData.eqv (.list [.tuple [.int a.num, .int a.den], .tuple [.int b.num, .int b.den], .tuple [.int c.num, .int c.den]]) (.list [.tuple [.int (0 : Rat).num, .int (0 : Rat).den], .tuple [.int (0 : Rat).num, .int (0 : Rat).den], .tuple [.int (0 : Rat).num, .int (0 : Rat).den]]) = decide (a = 0 ∧ b = 0 ∧ c = 0) := by
    simp only [PyData.eqv, PyData.eqvAll, Bool.and_true, z a, z b, z c, Bool.decide_and, Bool.beq_eq_decide_eq]
    rfl
  rw [e]
  rfl
theorem eF01 : D.tup [.int 0, .int 1] = eF 0 := rfl
theorem eF11 : D.tup [.int 1, .int 1] = eF 1 := rfl
def P3.ne (p : P3) : Prop := ¬ (p.x = 0 ∧ p.y = 0 ∧ p.z = 0)
theorem set57 (a b c q : Rat) (hq : q ≠ 0) {n : Nat} {u : Int} (h1 : 0 ≤ u) (h2 : u < 3) (ha : Rb n a) (hb : Rb n b) (hc : Rb n c) (hr : Rb n q) : ∃ (un : Nat) (p : P3), ixN 3 u = some un ∧ [eF a, eF b, eF c].set un (eF q) = [eF p.x, eF p.y, eF p.z] ∧ p.B n ∧ p.ne := by
  have : u = 0 ∨ u = 1 ∨ u = 2 := by omega
  rcases this with rfl | rfl | rfl
  · exact ⟨0, ⟨q, b, c⟩, rfl, rfl, ⟨hr, hb, hc⟩, fun z => hq z.1⟩
  · exact ⟨1, ⟨a, q, c⟩, rfl, rfl, ⟨ha, hr, hc⟩, fun z => hq z.2.1⟩
  · exact ⟨2, ⟨a, b, q⟩, rfl, rfl, ⟨ha, hb, hr⟩, fun z => hq z.2.2⟩
section
variable {B : Mem} {ones : List Int}
theorem z57 (d : D57) (X Y : Mem) : lstAt (M57 B ones d ++ (X ++ Y)) (B.length + 3 + X.length) = lstAt Y 0 := atB0 (M57_len d) Y
theorem zi57 (d : D57) (X Y : Mem) (i : Nat) : lstAt (M57 B ones d ++ (X ++ Y)) (B.length + 3 + (X.length + i)) = lstAt Y i := atB (M57_len d) Y i
theorem s57 (d : D57) (X Y : Mem) (c : Cell) : (M57 B ones d ++ (X ++ Y)).set (B.length + 3 + X.length) c = M57 B ones d ++ (X ++ Y.set 0 c) := setB0 (M57_len d) Y c
theorem si57 (d : D57) (X Y : Mem) (i : Nat) (c : Cell) : (M57 B ones d ++ (X ++ Y)).set (B.length + 3 + (X.length + i)) c = M57 B ones d ++ (X ++ Y.set i c) := setB (M57_len d) Y i c
theorem g57 (d : D57) (X Y : Mem) : (M57 B ones d ++ (X ++ Y))[B.length + 3 + X.length]? = Y[0]? := getB0 (M57_len d) Y
theorem gi57 (d : D57) (X Y : Mem) (i : Nat) : (M57 B ones d ++ (X ++ Y))[B.length + 3 + (X.length + i)]? = Y[i]? := getB (M57_len d) Y i
theorem gc57' (hB : B.all (Cell.lo B.length) = true) {X : Mem} (hX : X.all (Cell.lo 0) = true) (d' : D57) {v : D} (hv : v.lo 0 = true) (C : Mem) : gc (B.length + 3 + X.length) (v, M57 B ones d' ++ (X ++ C)) = (v, M57 B ones d' ++ X) := by
  have e := gc57 (ones := ones) hB hX d' d' (v := v) (D.lo_le (Nat.zero_le _) hv) C
  rw [List.length_append, M57_len] at e
  exact e
theorem gc570 (hB : B.all (Cell.lo B.length) = true) {X : Mem} (hX : X.all (Cell.lo 0) = true) (d' : D57) {v : D} (hv : v.lo 0 = true) : gc (B.length + 3 + X.length) (v, M57 B ones d' ++ X) = (v, M57 B ones d' ++ X) := by
  have := gc57' (ones := ones) hB hX d' hv []
  rwa [List.append_nil] at this
theorem way57 (hB : B.all (Cell.lo B.length) = true) (ho : 0 < ones.length) {b : Nat} {d : D57} (h : d.Ok (b + 4)) {X : Mem} (hX : X.all (Cell.lo 0) = true) : ∃ p d', D57.Ok b d' ∧ P3.B 20 p ∧ p.ne ∧ m__law_way [.rf (B.length + 2)] (M57 B ones d ++ X) = some (eP p, M57 B ones d' ++ X) := by
  obtain ⟨a1, d1, o1, a11, a12, e1⟩ := take57 hB ho (b := b + 3) h (many := 7) (by decide) (by decide) hX
  obtain ⟨a2, d2, o2, a21, a22, e2⟩ := take57 hB ho (b := b + 2) o1 (many := 7) (by decide) (by decide) hX
  obtain ⟨a3, d3, o3, a31, a32, e3⟩ := take57 hB ho (b := b + 1) o2 (many := 7) (by decide) (by decide) hX
  have bb : ∀ a : Int, 0 ≤ a → a < 7 → Rb 20 ((a - 3 : Int) : Rat) := fun a h1 h2 => rb_int (by decide) (bt_abs (by omega) (by omega))
  generalize hq1 : ((a1 - 3 : Int) : Rat) = q1
  generalize hq2 : ((a2 - 3 : Int) : Rat) = q2
  generalize hq3 : ((a3 - 3 : Int) : Rat) = q3
  have i1 : D.tup [.int (a1 - 3), .int 1] = eF q1 := by rw [eF_int, hq1]
  have i2 : D.tup [.int (a2 - 3), .int 1] = eF q2 := by rw [eF_int, hq2]
  have i3 : D.tup [.int (a3 - 3), .int 1] = eF q3 := by rw [eF_int, hq3]
  have b1 : Rb 20 q1 := hq1 ▸ bb _ a11 a12
  have b2 : Rb 20 q2 := hq2 ▸ bb _ a21 a22
  have b3 : Rb 20 q3 := hq3 ▸ bb _ a31 a32
  have qe : ∀ (c : Cell), gEq (.rf (B.length + 3 + X.length)) (.rf (B.length + 3 + (X.length + 2))) (M57 B ones d3 ++ (X ++ [.lst [eF q1, eF q2, eF q3], c, .lst [eF 0, eF 0, eF 0]])) = some (.bl (decide (q1 = 0 ∧ q2 = 0 ∧ q3 = 0)), M57 B ones d3 ++ (X ++ [.lst [eF q1, eF q2, eF q3], c, .lst [eF 0, eF 0, eF 0]])) := fun c => eqthree (g57 d3 X _) (gi57 d3 X _ 2)
  rw [e__law_way]
  unfold b__law_way
  by_cases hz : q1 = 0 ∧ q2 = 0 ∧ q3 = 0
  · obtain ⟨u, d4, o4, u1, u2, e4⟩ := take57 hB ho (b := b) o3 (many := 3) (by decide) (by decide) (X := X ++ [.lst [eF q1, eF q2, eF q3], .lst [eF 0], .lst [eF 0, eF 0, eF 0]]) (all_app hX rfl)
    obtain ⟨un, p, hu, hp, bp, np⟩ := set57 q1 q2 q3 1 (by decide) u1 u2 b1 b2 b3 (rb_int (x := 1) (by decide) (by unfold Bt; decide))
    have hd : decide (q1 = 0 ∧ q2 = 0 ∧ q3 = 0) = true := decide_eq_true hz
    refine ⟨p, d4, o4, bp, np, ?_⟩
    simp only [↓ev_V, ↓ev_C, ↓ev_O, ↓ev_U, ↓ev_Nil, ↓ev_Cons, ↓ev_L, ↓ev_If, ↓ev_tV, ↓ev_tTr, ↓ev_tAn, ↓ev_tOr, ↓ev_tNo, ↓ev_NotB, ↓ev_AnB, ↓ev_OrB, ↓ev_Tup, ↓ev_Lst, ↓ev_CP, ↓ev_ML, ↓ev_Sli, ↓ev_oN, ↓ev_oS, ↓ev_Ch, ↓ev_gN, ↓ev_gsNil, ↓ev_gsCons, ↓ev_gT, ↓ev_Seq, ↓ev_Asg, ↓ev_Par, ↓ev_Ret, ↓ev_Drop, ↓ev_sIf, ↓ev_Next, ↓ev_Brk, ↓ev_Cont, ↓ev_RetN, ↓ev_Sub, ↓ev_For, ↓ev_body, ↓ev_iE, ↓ev_iR1, ↓ev_iR2, ↓ev_iZ, ↓ev_iEn, ↓ev_item, ↓ev_Lc, ↓ev_Yes, ↓ev_Par3, ↓ev_As2, ↓ev_As4, ↓ev_CV, ↓ev_Fld, ↓ev_Mk, ↓ev_Mk0, ↓ev_Mt, ↓ev_ForM, ↓ev_bodyM, ↓ev_gTmT, ↓ev_gTmR, ↓ev_AsgM, ↓ev_Star, ↓ev_Dc, ↓ev_iRr, ↓ev_iRv, ↓ev_iZ3, ↓ev_iZ4, ↓ev_LR2, kForM_e, kAsgM_e, kSt1_e, kSt2_e, kSt3_e, seqT, seqRf, popRf, insRf, inE, notInE, kDc_e, kRr_e, kRv_e, revT, revL, vOf_e, kO_e, kO2_e, kU_e, kCons_e, kCons2_e, kL_e, kIf_t, kIf_f, kB_e, kTr_e, kTr2_e, kAn_t, kAn_f, kOr_t, kOr_f, kNo_e, kNotB_e, kAnB_t, kAnB_f, kOrB_t, kOrB_f, kTup_e, kLst_e, kCP_e, kD_e, kML_e, kML2_e, kS1_e, kS2_e, kS3_e, kI_e, kCh1_e, kCh2_e, kCh3_t, kCh3_f, kAsg_e, kNx_e, kRet_e, kDrop_e, kSif_t, kSif_f, kSub1_e, kSub2_e, kSub3_e, kNxM_e, kFor_e, kBody_e, kIE_e, kSrc_e, kR1_e, kR2_e, kR2b_e, kZ1_e, kZ2_e, kEn_e, kMap_e, kMap2_e, kIt1_e, kIt2_t, kIt2_f, kSome_e, kLc_e, kLc2_e, kGc_e, par3_e, kAs2_e, kAs3_e, kAs4_e, kAs5_e, kAs6_e, fnOf2_e, fnV_e, kCV_e, kFld1_e, kFld2_e, kMk_e, kMk2_e, kMt_e, kMt2_e, kMt3_e, gFldE, setFE, metE, insAt_zero, insAt_succ, ob_s, ob_n, then_nx, then_rt, then_bk, then_ct, par2_e, turn_nx, turn_ct, turn_bk, turn_rt, runT_nil, runT_cons, mapT_nil, mapT_cons, finP_nx, finM_rt, finM_nx, addE, subE, negE, cmpE, ixT, truI, truB, at0, at1, at2, at3, List.getElem?_cons_zero, List.getElem?_cons_succ, List.set_cons_zero, List.set_cons_succ, List.length_cons, List.length_nil, Nat.reduceAdd, Nat.reduceLeDiff, if_true, if_false, reduceIte, reduceCtorEq, id_eq, Bool.not_true, Bool.not_false, Bool.false_eq_true, and_self, Int.reduceLE, Int.reduceLT, Int.reduceNeg, decide_true, decide_false, Option.toList_some, Option.toList_none, List.cons_append, List.nil_append, ixRf, tupRf, lenRf, listRf, isLstRf, appRf, revRf, setRf, itemsRf, itemsT, itemsL, zipT, zipRf, allRf, anyRf, sumRf, tupT, slRf, isiE, t2E, lenT, lstAt_zero, lstAt_succ, Option.isSome_some, Nat.reduceLT, Bool.or_true, Bool.or_false, Bool.true_or, Bool.false_or, gIsN, gNotN, D.isNon, wipeD, isBlE, notBlE, min1Rf, kZa_e, kZb_e, kZc_e, kZd_e, kZe_e, kZa4_e, kZb4_e, kLRa_e, kLRb_e, zip3T, zip4T, upto3, e1, e2, e3, i1, i2, i3, List.append_assoc, List.length_append, M57_len, z57, zi57, rep57, List.append_nil, eF01, eF11, qe, hd, e4, hu, hp, s57]
    rw [tup3, gc57' hB hX d4 (lo_eP 0 p)]
  · have hd : decide (q1 = 0 ∧ q2 = 0 ∧ q3 = 0) = false := decide_eq_false hz
    refine ⟨⟨q1, q2, q3⟩, d3, ⟨o3.1, o3.2.1, by have := o3.2.2; omega⟩, ⟨b1, b2, b3⟩, hz, ?_⟩
    simp only [↓ev_V, ↓ev_C, ↓ev_O, ↓ev_U, ↓ev_Nil, ↓ev_Cons, ↓ev_L, ↓ev_If, ↓ev_tV, ↓ev_tTr, ↓ev_tAn, ↓ev_tOr, ↓ev_tNo, ↓ev_NotB, ↓ev_AnB, ↓ev_OrB, ↓ev_Tup, ↓ev_Lst, ↓ev_CP, ↓ev_ML, ↓ev_Sli, ↓ev_oN, ↓ev_oS, ↓ev_Ch, ↓ev_gN, ↓ev_gsNil, ↓ev_gsCons, ↓ev_gT, ↓ev_Seq, ↓ev_Asg, ↓ev_Par, ↓ev_Ret, ↓ev_Drop, ↓ev_sIf, ↓ev_Next, ↓ev_Brk, ↓ev_Cont, ↓ev_RetN, ↓ev_Sub, ↓ev_For, ↓ev_body, ↓ev_iE, ↓ev_iR1, ↓ev_iR2, ↓ev_iZ, ↓ev_iEn, ↓ev_item, ↓ev_Lc, ↓ev_Yes, ↓ev_Par3, ↓ev_As2, ↓ev_As4, ↓ev_CV, ↓ev_Fld, ↓ev_Mk, ↓ev_Mk0, ↓ev_Mt, ↓ev_ForM, ↓ev_bodyM, ↓ev_gTmT, ↓ev_gTmR, ↓ev_AsgM, ↓ev_Star, ↓ev_Dc, ↓ev_iRr, ↓ev_iRv, ↓ev_iZ3, ↓ev_iZ4, ↓ev_LR2, kForM_e, kAsgM_e, kSt1_e, kSt2_e, kSt3_e, seqT, seqRf, popRf, insRf, inE, notInE, kDc_e, kRr_e, kRv_e, revT, revL, vOf_e, kO_e, kO2_e, kU_e, kCons_e, kCons2_e, kL_e, kIf_t, kIf_f, kB_e, kTr_e, kTr2_e, kAn_t, kAn_f, kOr_t, kOr_f, kNo_e, kNotB_e, kAnB_t, kAnB_f, kOrB_t, kOrB_f, kTup_e, kLst_e, kCP_e, kD_e, kML_e, kML2_e, kS1_e, kS2_e, kS3_e, kI_e, kCh1_e, kCh2_e, kCh3_t, kCh3_f, kAsg_e, kNx_e, kRet_e, kDrop_e, kSif_t, kSif_f, kSub1_e, kSub2_e, kSub3_e, kNxM_e, kFor_e, kBody_e, kIE_e, kSrc_e, kR1_e, kR2_e, kR2b_e, kZ1_e, kZ2_e, kEn_e, kMap_e, kMap2_e, kIt1_e, kIt2_t, kIt2_f, kSome_e, kLc_e, kLc2_e, kGc_e, par3_e, kAs2_e, kAs3_e, kAs4_e, kAs5_e, kAs6_e, fnOf2_e, fnV_e, kCV_e, kFld1_e, kFld2_e, kMk_e, kMk2_e, kMt_e, kMt2_e, kMt3_e, gFldE, setFE, metE, insAt_zero, insAt_succ, ob_s, ob_n, then_nx, then_rt, then_bk, then_ct, par2_e, turn_nx, turn_ct, turn_bk, turn_rt, runT_nil, runT_cons, mapT_nil, mapT_cons, finP_nx, finM_rt, finM_nx, addE, subE, negE, cmpE, ixT, truI, truB, at0, at1, at2, at3, List.getElem?_cons_zero, List.getElem?_cons_succ, List.set_cons_zero, List.set_cons_succ, List.length_cons, List.length_nil, Nat.reduceAdd, Nat.reduceLeDiff, if_true, if_false, reduceIte, reduceCtorEq, id_eq, Bool.not_true, Bool.not_false, Bool.false_eq_true, and_self, Int.reduceLE, Int.reduceLT, Int.reduceNeg, decide_true, decide_false, Option.toList_some, Option.toList_none, List.cons_append, List.nil_append, ixRf, tupRf, lenRf, listRf, isLstRf, appRf, revRf, setRf, itemsRf, itemsT, itemsL, zipT, zipRf, allRf, anyRf, sumRf, tupT, slRf, isiE, t2E, lenT, lstAt_zero, lstAt_succ, Option.isSome_some, Nat.reduceLT, Bool.or_true, Bool.or_false, Bool.true_or, Bool.false_or, gIsN, gNotN, D.isNon, wipeD, isBlE, notBlE, min1Rf, kZa_e, kZb_e, kZc_e, kZd_e, kZe_e, kZa4_e, kZb4_e, kLRa_e, kLRb_e, zip3T, zip4T, upto3, e1, e2, e3, i1, i2, i3, List.append_assoc, List.length_append, M57_len, z57, zi57, rep57, List.append_nil, eF01, eF11, qe, hd]
    rw [tup3 ⟨q1, q2, q3⟩, gc57' hB hX d3 (lo_eP 0 _)]
theorem flat57 (hB : B.all (Cell.lo B.length) = true) (ho : 0 < ones.length) {b : Nat} {d : D57} (h : d.Ok (b + 12)) {X : Mem} (hX : X.all (Cell.lo 0) = true) : ∃ lo hi d', D57.Ok b d' ∧ P3.B 20 lo ∧ P3.B 31 hi ∧ m__law_flat_box [.rf (B.length + 2)] (M57 B ones d ++ X) = some (.tup [eP lo, eP hi], M57 B ones d' ++ X) := by
  obtain ⟨x, y, z, d1, o1, hx, hy, hz, e0⟩ := point57 hB ho (b := b + 6) h (far := 4) (by decide) (by decide) hX
  obtain ⟨a1, d2, o2, a11, a12, e1⟩ := take57 hB ho (b := b + 5) o1 (many := 6) (by decide) (by decide) hX
  obtain ⟨c1, d3, o3, c11, c12, f1⟩ := take57 hB ho (b := b + 4) o2 (many := 2) (by decide) (by decide) hX
  obtain ⟨a2, d4, o4, a21, a22, e2⟩ := take57 hB ho (b := b + 3) o3 (many := 6) (by decide) (by decide) hX
  obtain ⟨c2, d5, o5, c21, c22, f2⟩ := take57 hB ho (b := b + 2) o4 (many := 2) (by decide) (by decide) hX
  obtain ⟨a3, d6, o6, a31, a32, e3⟩ := take57 hB ho (b := b + 1) o5 (many := 6) (by decide) (by decide) hX
  obtain ⟨c3, d7, o7, c31, c32, f3⟩ := take57 hB ho (b := b) o6 (many := 2) (by decide) (by decide) hX
  have pt : ∀ a c : Int, 0 ≤ a → a < 6 → 0 ≤ c → c < 2 → ∃ r, Rb 10 r ∧ m__law_part [.int a, .int (1 + c)] = some (eF r) := fun a c h1 h2 h3 h4 => ⟨_, rb_div (by omega) (bt_abs (by omega) (by omega)) (bt_abs (by omega) (by omega)), part57 (a := a) (b := 1 + c) (by omega) ((bt_abs (m := 10) (by omega) (by omega)).mono (by decide))⟩
  obtain ⟨r1, rb1, p1⟩ := pt a1 c1 a11 a12 c11 c12
  obtain ⟨r2, rb2, p2⟩ := pt a2 c2 a21 a22 c21 c22
  obtain ⟨r3, rb3, p3⟩ := pt a3 c3 a31 a32 c31 c32
  have it : ∀ M : Mem, itemsOf (eP57 x y z) M = some ([eF x, eF y, eF z], fun _ => True) := fun _ => rfl
  refine ⟨⟨x, y, z⟩, ⟨x + r1, y + r2, z + r3⟩, d7, o7, ⟨hx, hy, hz⟩, ⟨hx.add rb1, hy.add rb2, hz.add rb3⟩, ?_⟩
  rw [e__law_flat_box]
  unfold b__law_flat_box
  simp only [↓ev_V, ↓ev_C, ↓ev_O, ↓ev_U, ↓ev_Nil, ↓ev_Cons, ↓ev_L, ↓ev_If, ↓ev_tV, ↓ev_tTr, ↓ev_tAn, ↓ev_tOr, ↓ev_tNo, ↓ev_NotB, ↓ev_AnB, ↓ev_OrB, ↓ev_Tup, ↓ev_Lst, ↓ev_CP, ↓ev_ML, ↓ev_Sli, ↓ev_oN, ↓ev_oS, ↓ev_Ch, ↓ev_gN, ↓ev_gsNil, ↓ev_gsCons, ↓ev_gT, ↓ev_Seq, ↓ev_Asg, ↓ev_Par, ↓ev_Ret, ↓ev_Drop, ↓ev_sIf, ↓ev_Next, ↓ev_Brk, ↓ev_Cont, ↓ev_RetN, ↓ev_Sub, ↓ev_For, ↓ev_body, ↓ev_iE, ↓ev_iR1, ↓ev_iR2, ↓ev_iZ, ↓ev_iEn, ↓ev_item, ↓ev_Lc, ↓ev_Yes, ↓ev_Par3, ↓ev_As2, ↓ev_As4, ↓ev_CV, ↓ev_Fld, ↓ev_Mk, ↓ev_Mk0, ↓ev_Mt, ↓ev_ForM, ↓ev_bodyM, ↓ev_gTmT, ↓ev_gTmR, ↓ev_AsgM, ↓ev_Star, ↓ev_Dc, ↓ev_iRr, ↓ev_iRv, ↓ev_iZ3, ↓ev_iZ4, ↓ev_LR2, kForM_e, kAsgM_e, kSt1_e, kSt2_e, kSt3_e, seqT, seqRf, popRf, insRf, inE, notInE, kDc_e, kRr_e, kRv_e, revT, revL, vOf_e, kO_e, kO2_e, kU_e, kCons_e, kCons2_e, kL_e, kIf_t, kIf_f, kB_e, kTr_e, kTr2_e, kAn_t, kAn_f, kOr_t, kOr_f, kNo_e, kNotB_e, kAnB_t, kAnB_f, kOrB_t, kOrB_f, kTup_e, kLst_e, kCP_e, kD_e, kML_e, kML2_e, kS1_e, kS2_e, kS3_e, kI_e, kCh1_e, kCh2_e, kCh3_t, kCh3_f, kAsg_e, kNx_e, kRet_e, kDrop_e, kSif_t, kSif_f, kSub1_e, kSub2_e, kSub3_e, kNxM_e, kFor_e, kBody_e, kIE_e, kSrc_e, kR1_e, kR2_e, kR2b_e, kZ1_e, kZ2_e, kEn_e, kMap_e, kMap2_e, kIt1_e, kIt2_t, kIt2_f, kSome_e, kLc_e, kLc2_e, kGc_e, par3_e, kAs2_e, kAs3_e, kAs4_e, kAs5_e, kAs6_e, fnOf2_e, fnV_e, kCV_e, kFld1_e, kFld2_e, kMk_e, kMk2_e, kMt_e, kMt2_e, kMt3_e, gFldE, setFE, metE, insAt_zero, insAt_succ, ob_s, ob_n, then_nx, then_rt, then_bk, then_ct, par2_e, turn_nx, turn_ct, turn_bk, turn_rt, runT_nil, runT_cons, mapT_nil, mapT_cons, finP_nx, finM_rt, finM_nx, addE, subE, negE, cmpE, ixT, truI, truB, at0, at1, at2, at3, List.getElem?_cons_zero, List.getElem?_cons_succ, List.set_cons_zero, List.set_cons_succ, List.length_cons, List.length_nil, Nat.reduceAdd, Nat.reduceLeDiff, if_true, if_false, reduceIte, reduceCtorEq, id_eq, Bool.not_true, Bool.not_false, Bool.false_eq_true, and_self, Int.reduceLE, Int.reduceLT, Int.reduceNeg, decide_true, decide_false, Option.toList_some, Option.toList_none, List.cons_append, List.nil_append, ixRf, tupRf, lenRf, listRf, isLstRf, appRf, revRf, setRf, itemsRf, itemsT, itemsL, zipT, zipRf, allRf, anyRf, sumRf, tupT, slRf, isiE, t2E, lenT, lstAt_zero, lstAt_succ, Option.isSome_some, Nat.reduceLT, Bool.or_true, Bool.or_false, Bool.true_or, Bool.false_or, gIsN, gNotN, D.isNon, wipeD, isBlE, notBlE, min1Rf, kZa_e, kZb_e, kZc_e, kZd_e, kZe_e, kZa4_e, kZb4_e, kLRa_e, kLRb_e, zip3T, zip4T, e0, it, e1, f1, e2, f2, e3, f3, p1, p2, p3, lplus57 hx rb1 (by decide), lplus57 hy rb2 (by decide), lplus57 hz rb3 (by decide), List.append_assoc, List.length_append, M57_len, z57]
  rw [gc57' hB hX d7 rfl]
  rfl
theorem spot57 (hB : B.all (Cell.lo B.length) = true) (ho : 0 < ones.length) {b : Nat} {d : D57} (h : d.Ok (b + 3)) {lo hi : P3} (bl : lo.B 20) (bh : hi.B 31) {X : Mem} (hX : X.all (Cell.lo 0) = true) : ∃ p d', D57.Ok b d' ∧ P3.B 80 p ∧ m__law_spot_of [.rf (B.length + 2), .tup [eP lo, eP hi]] (M57 B ones d ++ X) = some (eP p, M57 B ones d' ++ X) := by
  have quart : ∀ v : Int, 0 ≤ v → v < 4 → ∃ q, Rb 5 q ∧ atI [D.tup [.int 0, .int 1], D.tup [.int 1, .int 1], D.tup [.int 1, .int 2], D.tup [.int 1, .int 3]] v = some (eF q) := fun v h1 h2 => by
    have : v = 0 ∨ v = 1 ∨ v = 2 ∨ v = 3 := by omega
    rcases this with rfl | rfl | rfl | rfl
    · exact ⟨⟨0, 1, by decide, by decide⟩, ⟨by unfold Bt; decide, by unfold Bt; decide⟩, rfl⟩
    · exact ⟨⟨1, 1, by decide, by decide⟩, ⟨by unfold Bt; decide, by unfold Bt; decide⟩, rfl⟩
    · exact ⟨⟨1, 2, by decide, by decide⟩, ⟨by unfold Bt; decide, by unfold Bt; decide⟩, rfl⟩
    · exact ⟨⟨1, 3, by decide, by decide⟩, ⟨by unfold Bt; decide, by unfold Bt; decide⟩, rfl⟩
  obtain ⟨v1, d1, o1, v11, v12, e1⟩ := take57 hB ho (b := b + 2) h (many := 4) (by decide) (by decide) (X := X ++ [.lst [], .lst [D.tup [.int 0, .int 1], D.tup [.int 1, .int 1], D.tup [.int 1, .int 2], D.tup [.int 1, .int 3]]]) (all_app hX rfl)
  obtain ⟨q1, bq1, k1⟩ := quart v1 v11 v12
  generalize hr1 : lo.x + q1 * (hi.x - lo.x) = r1
  obtain ⟨v2, d2, o2, v21, v22, e2⟩ := take57 hB ho (b := b + 1) o1 (many := 4) (by decide) (by decide) (X := X ++ [.lst [eF r1], .lst [D.tup [.int 0, .int 1], D.tup [.int 1, .int 1], D.tup [.int 1, .int 2], D.tup [.int 1, .int 3]], .lst [D.tup [.int 0, .int 1], D.tup [.int 1, .int 1], D.tup [.int 1, .int 2], D.tup [.int 1, .int 3]]]) (all_app hX rfl)
  obtain ⟨q2, bq2, k2⟩ := quart v2 v21 v22
  generalize hr2 : lo.y + q2 * (hi.y - lo.y) = r2
  obtain ⟨v3, d3, o3, v31, v32, e3⟩ := take57 hB ho (b := b) o2 (many := 4) (by decide) (by decide) (X := X ++ [.lst [eF r1, eF r2], .lst [D.tup [.int 0, .int 1], D.tup [.int 1, .int 1], D.tup [.int 1, .int 2], D.tup [.int 1, .int 3]], .lst [D.tup [.int 0, .int 1], D.tup [.int 1, .int 1], D.tup [.int 1, .int 2], D.tup [.int 1, .int 3]], .lst [D.tup [.int 0, .int 1], D.tup [.int 1, .int 1], D.tup [.int 1, .int 2], D.tup [.int 1, .int 3]]]) (all_app hX rfl)
  obtain ⟨q3, bq3, k3⟩ := quart v3 v31 v32
  generalize hr3 : lo.z + q3 * (hi.z - lo.z) = r3
  have w : ∀ l h q : Rat, Rb 20 l → Rb 31 h → Rb 5 q → Rb 80 (l + q * (h - l)) ∧ m__law_less [eF h, eF l] = some (eF (h - l)) ∧ m__law_times [eF q, eF (h - l)] = some (eF (q * (h - l))) ∧ m__law_plus [eF l, eF (q * (h - l))] = some (eF (l + q * (h - l))) := fun l h q hl hh hq =>
    ⟨(hl.add (hq.mul (hh.sub hl))).mono (by decide), lless57 hh hl (by decide), ltimes57 hq (hh.sub hl) (by decide), lplus57 hl (hq.mul (hh.sub hl)) (by decide)⟩
  obtain ⟨w11, w12, w13, w14⟩ := w _ _ _ bl.1 bh.1 bq1
  obtain ⟨w21, w22, w23, w24⟩ := w _ _ _ bl.2.1 bh.2.1 bq2
  obtain ⟨w31, w32, w33, w34⟩ := w _ _ _ bl.2.2 bh.2.2 bq3
  rw [hr1] at w11 w14
  rw [hr2] at w21 w24
  rw [hr3] at w31 w34
  refine ⟨⟨r1, r2, r3⟩, d3, o3, ⟨w11, w21, w31⟩, ?_⟩
  rw [e__law_spot_of]
  unfold b__law_spot_of
  simp only [↓ev_V, ↓ev_C, ↓ev_O, ↓ev_U, ↓ev_Nil, ↓ev_Cons, ↓ev_L, ↓ev_If, ↓ev_tV, ↓ev_tTr, ↓ev_tAn, ↓ev_tOr, ↓ev_tNo, ↓ev_NotB, ↓ev_AnB, ↓ev_OrB, ↓ev_Tup, ↓ev_Lst, ↓ev_CP, ↓ev_ML, ↓ev_Sli, ↓ev_oN, ↓ev_oS, ↓ev_Ch, ↓ev_gN, ↓ev_gsNil, ↓ev_gsCons, ↓ev_gT, ↓ev_Seq, ↓ev_Asg, ↓ev_Par, ↓ev_Ret, ↓ev_Drop, ↓ev_sIf, ↓ev_Next, ↓ev_Brk, ↓ev_Cont, ↓ev_RetN, ↓ev_Sub, ↓ev_For, ↓ev_body, ↓ev_iE, ↓ev_iR1, ↓ev_iR2, ↓ev_iZ, ↓ev_iEn, ↓ev_item, ↓ev_Lc, ↓ev_Yes, ↓ev_Par3, ↓ev_As2, ↓ev_As4, ↓ev_CV, ↓ev_Fld, ↓ev_Mk, ↓ev_Mk0, ↓ev_Mt, ↓ev_ForM, ↓ev_bodyM, ↓ev_gTmT, ↓ev_gTmR, ↓ev_AsgM, ↓ev_Star, ↓ev_Dc, ↓ev_iRr, ↓ev_iRv, ↓ev_iZ3, ↓ev_iZ4, ↓ev_LR2, kForM_e, kAsgM_e, kSt1_e, kSt2_e, kSt3_e, seqT, seqRf, popRf, insRf, inE, notInE, kDc_e, kRr_e, kRv_e, revT, revL, vOf_e, kO_e, kO2_e, kU_e, kCons_e, kCons2_e, kL_e, kIf_t, kIf_f, kB_e, kTr_e, kTr2_e, kAn_t, kAn_f, kOr_t, kOr_f, kNo_e, kNotB_e, kAnB_t, kAnB_f, kOrB_t, kOrB_f, kTup_e, kLst_e, kCP_e, kD_e, kML_e, kML2_e, kS1_e, kS2_e, kS3_e, kI_e, kCh1_e, kCh2_e, kCh3_t, kCh3_f, kAsg_e, kNx_e, kRet_e, kDrop_e, kSif_t, kSif_f, kSub1_e, kSub2_e, kSub3_e, kNxM_e, kFor_e, kBody_e, kIE_e, kSrc_e, kR1_e, kR2_e, kR2b_e, kZ1_e, kZ2_e, kEn_e, kMap_e, kMap2_e, kIt1_e, kIt2_t, kIt2_f, kSome_e, kLc_e, kLc2_e, kGc_e, par3_e, kAs2_e, kAs3_e, kAs4_e, kAs5_e, kAs6_e, fnOf2_e, fnV_e, kCV_e, kFld1_e, kFld2_e, kMk_e, kMk2_e, kMt_e, kMt2_e, kMt3_e, gFldE, setFE, metE, insAt_zero, insAt_succ, ob_s, ob_n, then_nx, then_rt, then_bk, then_ct, par2_e, turn_nx, turn_ct, turn_bk, turn_rt, runT_nil, runT_cons, mapT_nil, mapT_cons, finP_nx, finM_rt, finM_nx, addE, subE, negE, cmpE, ixT, truI, truB, at0, at1, at2, at3, List.getElem?_cons_zero, List.getElem?_cons_succ, List.set_cons_zero, List.set_cons_succ, List.length_cons, List.length_nil, Nat.reduceAdd, Nat.reduceLeDiff, if_true, if_false, reduceIte, reduceCtorEq, id_eq, Bool.not_true, Bool.not_false, Bool.false_eq_true, and_self, Int.reduceLE, Int.reduceLT, Int.reduceNeg, decide_true, decide_false, Option.toList_some, Option.toList_none, List.cons_append, List.nil_append, ixRf, tupRf, lenRf, listRf, isLstRf, appRf, revRf, setRf, itemsRf, itemsT, itemsL, zipT, zipRf, allRf, anyRf, sumRf, tupT, slRf, isiE, t2E, lenT, lstAt_zero, lstAt_succ, Option.isSome_some, Nat.reduceLT, Bool.or_true, Bool.or_false, Bool.true_or, Bool.false_or, gIsN, gNotN, D.isNon, wipeD, isBlE, notBlE, min1Rf, kZa_e, kZb_e, kZc_e, kZd_e, kZe_e, kZa4_e, kZb4_e, kLRa_e, kLRb_e, zip3T, zip4T, upto3, List.append_assoc, List.length_append, M57_len, z57, zi57, s57, ix_eP0, ix_eP1, ix_eP2, e1, e2, e3, k1, k2, k3, w12, w13, w14, w22, w23, w24, w32, w33, w34]
  rw [tup3 ⟨r1, r2, r3⟩, gc57' hB hX d3 (lo_eP 0 _)]
theorem eFneg (q : Rat) : D.tup [.int (-q.num), .int (q.den : Int)] = eF (-q) := by
  unfold eF
  rw [Rat.neg_num, Rat.neg_den]
theorem Rb.neg57 {n : Nat} {q : Rat} (h : Rb n q) : Rb n (-q) := by
  unfold Rb
  rw [Rat.neg_num, Rat.neg_den]
  exact ⟨h.1.neg, h.2⟩
theorem sl57 (ds : List D) (lo hi : Option Int) (M : Mem) : gSl (.tup ds) lo hi M = some (.tup (cutD ds lo hi), M) := rfl
theorem add57 (a b : List D) (M : Mem) : gAdd (.tup a) (.tup b) M = if a.length + b.length ≤ 100000 then some (.tup (a ++ b), M) else none := rfl
theorem put57 (p t : P3) {m n : Nat} (hp : p.B m) (ht : t.B n) (hmn : m ≤ n) {u : Int} (h1 : 0 ≤ u) (h2 : u < 3) : ∃ q p', (∀ M, gIx (eP t) (.int u) M = some (eF q, M)) ∧ P3.B n p' ∧ m__law_put [eP p, .int u, eF q] = some (eP p') := by
  have hp' := hp.mono hmn
  have : u = 0 ∨ u = 1 ∨ u = 2 := by omega
  rcases this with rfl | rfl | rfl
  · refine ⟨t.x, ⟨t.x, p.y, p.z⟩, fun _ => rfl, ⟨ht.1, hp'.2.1, hp'.2.2⟩, ?_⟩
    rw [e__law_put _ _ _ rfl]
    unfold b__law_put
    simp only [↓ev_V, ↓ev_C, ↓ev_O, ↓ev_U, ↓ev_Nil, ↓ev_Cons, ↓ev_L, ↓ev_If, ↓ev_tV, ↓ev_tTr, ↓ev_tAn, ↓ev_tOr, ↓ev_tNo, ↓ev_NotB, ↓ev_AnB, ↓ev_OrB, ↓ev_Tup, ↓ev_Lst, ↓ev_CP, ↓ev_ML, ↓ev_Sli, ↓ev_oN, ↓ev_oS, ↓ev_Ch, ↓ev_gN, ↓ev_gsNil, ↓ev_gsCons, ↓ev_gT, ↓ev_Seq, ↓ev_Asg, ↓ev_Par, ↓ev_Ret, ↓ev_Drop, ↓ev_sIf, ↓ev_Next, ↓ev_Brk, ↓ev_Cont, ↓ev_RetN, ↓ev_Sub, ↓ev_For, ↓ev_body, ↓ev_iE, ↓ev_iR1, ↓ev_iR2, ↓ev_iZ, ↓ev_iEn, ↓ev_item, ↓ev_Lc, ↓ev_Yes, ↓ev_Par3, ↓ev_As2, ↓ev_As4, ↓ev_CV, ↓ev_Fld, ↓ev_Mk, ↓ev_Mk0, ↓ev_Mt, ↓ev_ForM, ↓ev_bodyM, ↓ev_gTmT, ↓ev_gTmR, ↓ev_AsgM, ↓ev_Star, ↓ev_Dc, ↓ev_iRr, ↓ev_iRv, ↓ev_iZ3, ↓ev_iZ4, ↓ev_LR2, kForM_e, kAsgM_e, kSt1_e, kSt2_e, kSt3_e, seqT, seqRf, popRf, insRf, inE, notInE, kDc_e, kRr_e, kRv_e, revT, revL, vOf_e, kO_e, kO2_e, kU_e, kCons_e, kCons2_e, kL_e, kIf_t, kIf_f, kB_e, kTr_e, kTr2_e, kAn_t, kAn_f, kOr_t, kOr_f, kNo_e, kNotB_e, kAnB_t, kAnB_f, kOrB_t, kOrB_f, kTup_e, kLst_e, kCP_e, kD_e, kML_e, kML2_e, kS1_e, kS2_e, kS3_e, kI_e, kCh1_e, kCh2_e, kCh3_t, kCh3_f, kAsg_e, kNx_e, kRet_e, kDrop_e, kSif_t, kSif_f, kSub1_e, kSub2_e, kSub3_e, kNxM_e, kFor_e, kBody_e, kIE_e, kSrc_e, kR1_e, kR2_e, kR2b_e, kZ1_e, kZ2_e, kEn_e, kMap_e, kMap2_e, kIt1_e, kIt2_t, kIt2_f, kSome_e, kLc_e, kLc2_e, kGc_e, par3_e, kAs2_e, kAs3_e, kAs4_e, kAs5_e, kAs6_e, fnOf2_e, fnV_e, kCV_e, kFld1_e, kFld2_e, kMk_e, kMk2_e, kMt_e, kMt2_e, kMt3_e, gFldE, setFE, metE, insAt_zero, insAt_succ, ob_s, ob_n, then_nx, then_rt, then_bk, then_ct, par2_e, turn_nx, turn_ct, turn_bk, turn_rt, runT_nil, runT_cons, mapT_nil, mapT_cons, finP_nx, finM_rt, finM_nx, addE, subE, negE, cmpE, ixT, truI, truB, at0, at1, at2, at3, List.getElem?_cons_zero, List.getElem?_cons_succ, List.set_cons_zero, List.set_cons_succ, List.length_cons, List.length_nil, Nat.reduceAdd, Nat.reduceLeDiff, if_true, if_false, reduceIte, reduceCtorEq, id_eq, Bool.not_true, Bool.not_false, Bool.false_eq_true, and_self, Int.reduceLE, Int.reduceLT, Int.reduceNeg, decide_true, decide_false, Option.toList_some, Option.toList_none, List.cons_append, List.nil_append, ixRf, tupRf, lenRf, listRf, isLstRf, appRf, revRf, setRf, itemsRf, itemsT, itemsL, zipT, zipRf, allRf, anyRf, sumRf, tupT, slRf, isiE, t2E, lenT, lstAt_zero, lstAt_succ, Option.isSome_some, Nat.reduceLT, Bool.or_true, Bool.or_false, Bool.true_or, Bool.false_or, gIsN, gNotN, D.isNon, wipeD, isBlE, notBlE, min1Rf, kZa_e, kZb_e, kZc_e, kZd_e, kZe_e, kZa4_e, kZb4_e, kLRa_e, kLRb_e, zip3T, zip4T, eP, sl57, add57, show cutD [eF p.x, eF p.y, eF p.z] none (some 0) = [] from rfl, show cutD [eF p.x, eF p.y, eF p.z] (some (0 + 1)) none = [eF p.y, eF p.z] from rfl]
    exact finP_rt _ _ rfl
  · refine ⟨t.y, ⟨p.x, t.y, p.z⟩, fun _ => rfl, ⟨hp'.1, ht.2.1, hp'.2.2⟩, ?_⟩
    rw [e__law_put _ _ _ rfl]
    unfold b__law_put
    simp only [↓ev_V, ↓ev_C, ↓ev_O, ↓ev_U, ↓ev_Nil, ↓ev_Cons, ↓ev_L, ↓ev_If, ↓ev_tV, ↓ev_tTr, ↓ev_tAn, ↓ev_tOr, ↓ev_tNo, ↓ev_NotB, ↓ev_AnB, ↓ev_OrB, ↓ev_Tup, ↓ev_Lst, ↓ev_CP, ↓ev_ML, ↓ev_Sli, ↓ev_oN, ↓ev_oS, ↓ev_Ch, ↓ev_gN, ↓ev_gsNil, ↓ev_gsCons, ↓ev_gT, ↓ev_Seq, ↓ev_Asg, ↓ev_Par, ↓ev_Ret, ↓ev_Drop, ↓ev_sIf, ↓ev_Next, ↓ev_Brk, ↓ev_Cont, ↓ev_RetN, ↓ev_Sub, ↓ev_For, ↓ev_body, ↓ev_iE, ↓ev_iR1, ↓ev_iR2, ↓ev_iZ, ↓ev_iEn, ↓ev_item, ↓ev_Lc, ↓ev_Yes, ↓ev_Par3, ↓ev_As2, ↓ev_As4, ↓ev_CV, ↓ev_Fld, ↓ev_Mk, ↓ev_Mk0, ↓ev_Mt, ↓ev_ForM, ↓ev_bodyM, ↓ev_gTmT, ↓ev_gTmR, ↓ev_AsgM, ↓ev_Star, ↓ev_Dc, ↓ev_iRr, ↓ev_iRv, ↓ev_iZ3, ↓ev_iZ4, ↓ev_LR2, kForM_e, kAsgM_e, kSt1_e, kSt2_e, kSt3_e, seqT, seqRf, popRf, insRf, inE, notInE, kDc_e, kRr_e, kRv_e, revT, revL, vOf_e, kO_e, kO2_e, kU_e, kCons_e, kCons2_e, kL_e, kIf_t, kIf_f, kB_e, kTr_e, kTr2_e, kAn_t, kAn_f, kOr_t, kOr_f, kNo_e, kNotB_e, kAnB_t, kAnB_f, kOrB_t, kOrB_f, kTup_e, kLst_e, kCP_e, kD_e, kML_e, kML2_e, kS1_e, kS2_e, kS3_e, kI_e, kCh1_e, kCh2_e, kCh3_t, kCh3_f, kAsg_e, kNx_e, kRet_e, kDrop_e, kSif_t, kSif_f, kSub1_e, kSub2_e, kSub3_e, kNxM_e, kFor_e, kBody_e, kIE_e, kSrc_e, kR1_e, kR2_e, kR2b_e, kZ1_e, kZ2_e, kEn_e, kMap_e, kMap2_e, kIt1_e, kIt2_t, kIt2_f, kSome_e, kLc_e, kLc2_e, kGc_e, par3_e, kAs2_e, kAs3_e, kAs4_e, kAs5_e, kAs6_e, fnOf2_e, fnV_e, kCV_e, kFld1_e, kFld2_e, kMk_e, kMk2_e, kMt_e, kMt2_e, kMt3_e, gFldE, setFE, metE, insAt_zero, insAt_succ, ob_s, ob_n, then_nx, then_rt, then_bk, then_ct, par2_e, turn_nx, turn_ct, turn_bk, turn_rt, runT_nil, runT_cons, mapT_nil, mapT_cons, finP_nx, finM_rt, finM_nx, addE, subE, negE, cmpE, ixT, truI, truB, at0, at1, at2, at3, List.getElem?_cons_zero, List.getElem?_cons_succ, List.set_cons_zero, List.set_cons_succ, List.length_cons, List.length_nil, Nat.reduceAdd, Nat.reduceLeDiff, if_true, if_false, reduceIte, reduceCtorEq, id_eq, Bool.not_true, Bool.not_false, Bool.false_eq_true, and_self, Int.reduceLE, Int.reduceLT, Int.reduceNeg, decide_true, decide_false, Option.toList_some, Option.toList_none, List.cons_append, List.nil_append, ixRf, tupRf, lenRf, listRf, isLstRf, appRf, revRf, setRf, itemsRf, itemsT, itemsL, zipT, zipRf, allRf, anyRf, sumRf, tupT, slRf, isiE, t2E, lenT, lstAt_zero, lstAt_succ, Option.isSome_some, Nat.reduceLT, Bool.or_true, Bool.or_false, Bool.true_or, Bool.false_or, gIsN, gNotN, D.isNon, wipeD, isBlE, notBlE, min1Rf, kZa_e, kZb_e, kZc_e, kZd_e, kZe_e, kZa4_e, kZb4_e, kLRa_e, kLRb_e, zip3T, zip4T, eP, sl57, add57, show cutD [eF p.x, eF p.y, eF p.z] none (some 1) = [eF p.x] from rfl, show cutD [eF p.x, eF p.y, eF p.z] (some (1 + 1)) none = [eF p.z] from rfl]
    exact finP_rt _ _ rfl
  · refine ⟨t.z, ⟨p.x, p.y, t.z⟩, fun _ => rfl, ⟨hp'.1, hp'.2.1, ht.2.2⟩, ?_⟩
    rw [e__law_put _ _ _ rfl]
    unfold b__law_put
    simp only [↓ev_V, ↓ev_C, ↓ev_O, ↓ev_U, ↓ev_Nil, ↓ev_Cons, ↓ev_L, ↓ev_If, ↓ev_tV, ↓ev_tTr, ↓ev_tAn, ↓ev_tOr, ↓ev_tNo, ↓ev_NotB, ↓ev_AnB, ↓ev_OrB, ↓ev_Tup, ↓ev_Lst, ↓ev_CP, ↓ev_ML, ↓ev_Sli, ↓ev_oN, ↓ev_oS, ↓ev_Ch, ↓ev_gN, ↓ev_gsNil, ↓ev_gsCons, ↓ev_gT, ↓ev_Seq, ↓ev_Asg, ↓ev_Par, ↓ev_Ret, ↓ev_Drop, ↓ev_sIf, ↓ev_Next, ↓ev_Brk, ↓ev_Cont, ↓ev_RetN, ↓ev_Sub, ↓ev_For, ↓ev_body, ↓ev_iE, ↓ev_iR1, ↓ev_iR2, ↓ev_iZ, ↓ev_iEn, ↓ev_item, ↓ev_Lc, ↓ev_Yes, ↓ev_Par3, ↓ev_As2, ↓ev_As4, ↓ev_CV, ↓ev_Fld, ↓ev_Mk, ↓ev_Mk0, ↓ev_Mt, ↓ev_ForM, ↓ev_bodyM, ↓ev_gTmT, ↓ev_gTmR, ↓ev_AsgM, ↓ev_Star, ↓ev_Dc, ↓ev_iRr, ↓ev_iRv, ↓ev_iZ3, ↓ev_iZ4, ↓ev_LR2, kForM_e, kAsgM_e, kSt1_e, kSt2_e, kSt3_e, seqT, seqRf, popRf, insRf, inE, notInE, kDc_e, kRr_e, kRv_e, revT, revL, vOf_e, kO_e, kO2_e, kU_e, kCons_e, kCons2_e, kL_e, kIf_t, kIf_f, kB_e, kTr_e, kTr2_e, kAn_t, kAn_f, kOr_t, kOr_f, kNo_e, kNotB_e, kAnB_t, kAnB_f, kOrB_t, kOrB_f, kTup_e, kLst_e, kCP_e, kD_e, kML_e, kML2_e, kS1_e, kS2_e, kS3_e, kI_e, kCh1_e, kCh2_e, kCh3_t, kCh3_f, kAsg_e, kNx_e, kRet_e, kDrop_e, kSif_t, kSif_f, kSub1_e, kSub2_e, kSub3_e, kNxM_e, kFor_e, kBody_e, kIE_e, kSrc_e, kR1_e, kR2_e, kR2b_e, kZ1_e, kZ2_e, kEn_e, kMap_e, kMap2_e, kIt1_e, kIt2_t, kIt2_f, kSome_e, kLc_e, kLc2_e, kGc_e, par3_e, kAs2_e, kAs3_e, kAs4_e, kAs5_e, kAs6_e, fnOf2_e, fnV_e, kCV_e, kFld1_e, kFld2_e, kMk_e, kMk2_e, kMt_e, kMt2_e, kMt3_e, gFldE, setFE, metE, insAt_zero, insAt_succ, ob_s, ob_n, then_nx, then_rt, then_bk, then_ct, par2_e, turn_nx, turn_ct, turn_bk, turn_rt, runT_nil, runT_cons, mapT_nil, mapT_cons, finP_nx, finM_rt, finM_nx, addE, subE, negE, cmpE, ixT, truI, truB, at0, at1, at2, at3, List.getElem?_cons_zero, List.getElem?_cons_succ, List.set_cons_zero, List.set_cons_succ, List.length_cons, List.length_nil, Nat.reduceAdd, Nat.reduceLeDiff, if_true, if_false, reduceIte, reduceCtorEq, id_eq, Bool.not_true, Bool.not_false, Bool.false_eq_true, and_self, Int.reduceLE, Int.reduceLT, Int.reduceNeg, decide_true, decide_false, Option.toList_some, Option.toList_none, List.cons_append, List.nil_append, ixRf, tupRf, lenRf, listRf, isLstRf, appRf, revRf, setRf, itemsRf, itemsT, itemsL, zipT, zipRf, allRf, anyRf, sumRf, tupT, slRf, isiE, t2E, lenT, lstAt_zero, lstAt_succ, Option.isSome_some, Nat.reduceLT, Bool.or_true, Bool.or_false, Bool.true_or, Bool.false_or, gIsN, gNotN, D.isNon, wipeD, isBlE, notBlE, min1Rf, kZa_e, kZb_e, kZc_e, kZd_e, kZe_e, kZa4_e, kZb4_e, kLRa_e, kLRb_e, zip3T, zip4T, eP, sl57, add57, show cutD [eF p.x, eF p.y, eF p.z] none (some 2) = [eF p.x, eF p.y] from rfl, show cutD [eF p.x, eF p.y, eF p.z] (some (2 + 1)) none = [] from rfl]
    exact finP_rt _ _ rfl
theorem rayby57 (hB : B.all (Cell.lo B.length) = true) (ho : 0 < ones.length) {b : Nat} {d : D57} (h : d.Ok (b + 20)) {lo hi : P3} (bl : lo.B 20) (bh : hi.B 31) {X : Mem} (hX : X.all (Cell.lo 0) = true) : ∃ p w d', D57.Ok b d' ∧ P3.B 80 p ∧ P3.B 110 w ∧ w.ne ∧ m__law_ray_by [.rf (B.length + 2), .tup [eP lo, eP hi]] (M57 B ones d ++ X) = some (.tup [eP p, eP w], M57 B ones d' ++ X) := by
  have mono : ∀ {b b' : Nat} {d : D57}, d.Ok b → b' ≤ b → d.Ok b' := fun h hb => ⟨h.1, h.2.1, by have := h.2.2; omega⟩
  obtain ⟨v, d1, o1, v1, v2, e1⟩ := take57 hB ho (b := b + 19) h (many := 5) (by decide) (by decide) hX
  obtain ⟨x, y, z, d2, o2, hx, hy, hz, e2⟩ := point57 hB ho (b := b + 13) o1 (far := 7) (by decide) (by decide) hX
  rw [eP57_eP] at e2
  have bp : P3.B 20 ⟨x, y, z⟩ := ⟨hx, hy, hz⟩
  generalize (⟨x, y, z⟩ : P3) = pl at e2 bp
  rw [e__law_ray_by]
  unfold b__law_ray_by
  obtain rfl | rfl | hv2 : v = 0 ∨ v = 1 ∨ 2 ≤ v := by omega
  · obtain ⟨w, d3, o3, bw, nw, e3⟩ := way57 hB ho (b := b) (mono o2 (by omega)) hX
    refine ⟨pl, w, d3, o3, bp.mono (by decide), bw.mono (by decide), nw, ?_⟩
    simp only [↓ev_V, ↓ev_C, ↓ev_O, ↓ev_U, ↓ev_Nil, ↓ev_Cons, ↓ev_L, ↓ev_If, ↓ev_tV, ↓ev_tTr, ↓ev_tAn, ↓ev_tOr, ↓ev_tNo, ↓ev_NotB, ↓ev_AnB, ↓ev_OrB, ↓ev_Tup, ↓ev_Lst, ↓ev_CP, ↓ev_ML, ↓ev_Sli, ↓ev_oN, ↓ev_oS, ↓ev_Ch, ↓ev_gN, ↓ev_gsNil, ↓ev_gsCons, ↓ev_gT, ↓ev_Seq, ↓ev_Asg, ↓ev_Par, ↓ev_Ret, ↓ev_Drop, ↓ev_sIf, ↓ev_Next, ↓ev_Brk, ↓ev_Cont, ↓ev_RetN, ↓ev_Sub, ↓ev_For, ↓ev_body, ↓ev_iE, ↓ev_iR1, ↓ev_iR2, ↓ev_iZ, ↓ev_iEn, ↓ev_item, ↓ev_Lc, ↓ev_Yes, ↓ev_Par3, ↓ev_As2, ↓ev_As4, ↓ev_CV, ↓ev_Fld, ↓ev_Mk, ↓ev_Mk0, ↓ev_Mt, ↓ev_ForM, ↓ev_bodyM, ↓ev_gTmT, ↓ev_gTmR, ↓ev_AsgM, ↓ev_Star, ↓ev_Dc, ↓ev_iRr, ↓ev_iRv, ↓ev_iZ3, ↓ev_iZ4, ↓ev_LR2, kForM_e, kAsgM_e, kSt1_e, kSt2_e, kSt3_e, seqT, seqRf, popRf, insRf, inE, notInE, kDc_e, kRr_e, kRv_e, revT, revL, vOf_e, kO_e, kO2_e, kU_e, kCons_e, kCons2_e, kL_e, kIf_t, kIf_f, kB_e, kTr_e, kTr2_e, kAn_t, kAn_f, kOr_t, kOr_f, kNo_e, kNotB_e, kAnB_t, kAnB_f, kOrB_t, kOrB_f, kTup_e, kLst_e, kCP_e, kD_e, kML_e, kML2_e, kS1_e, kS2_e, kS3_e, kI_e, kCh1_e, kCh2_e, kCh3_t, kCh3_f, kAsg_e, kNx_e, kRet_e, kDrop_e, kSif_t, kSif_f, kSub1_e, kSub2_e, kSub3_e, kNxM_e, kFor_e, kBody_e, kIE_e, kSrc_e, kR1_e, kR2_e, kR2b_e, kZ1_e, kZ2_e, kEn_e, kMap_e, kMap2_e, kIt1_e, kIt2_t, kIt2_f, kSome_e, kLc_e, kLc2_e, kGc_e, par3_e, kAs2_e, kAs3_e, kAs4_e, kAs5_e, kAs6_e, fnOf2_e, fnV_e, kCV_e, kFld1_e, kFld2_e, kMk_e, kMk2_e, kMt_e, kMt2_e, kMt3_e, gFldE, setFE, metE, insAt_zero, insAt_succ, ob_s, ob_n, then_nx, then_rt, then_bk, then_ct, par2_e, turn_nx, turn_ct, turn_bk, turn_rt, runT_nil, runT_cons, mapT_nil, mapT_cons, finP_nx, finM_rt, finM_nx, addE, subE, negE, cmpE, ixT, truI, truB, at0, at1, at2, at3, List.getElem?_cons_zero, List.getElem?_cons_succ, List.set_cons_zero, List.set_cons_succ, List.length_cons, List.length_nil, Nat.reduceAdd, Nat.reduceLeDiff, if_true, if_false, reduceIte, reduceCtorEq, id_eq, Bool.not_true, Bool.not_false, Bool.false_eq_true, and_self, Int.reduceLE, Int.reduceLT, Int.reduceNeg, decide_true, decide_false, Option.toList_some, Option.toList_none, List.cons_append, List.nil_append, ixRf, tupRf, lenRf, listRf, isLstRf, appRf, revRf, setRf, itemsRf, itemsT, itemsL, zipT, zipRf, allRf, anyRf, sumRf, tupT, slRf, isiE, t2E, lenT, lstAt_zero, lstAt_succ, Option.isSome_some, Nat.reduceLT, Bool.or_true, Bool.or_false, Bool.true_or, Bool.false_or, gIsN, gNotN, D.isNon, wipeD, isBlE, notBlE, min1Rf, kZa_e, kZb_e, kZc_e, kZd_e, kZe_e, kZa4_e, kZb4_e, kLRa_e, kLRb_e, zip3T, zip4T, List.length_append, M57_len, e1, e2, e3, eqIb, beq_self_eq_true]
    rw [gc570 hB hX d3 rfl]
  · obtain ⟨s, d3, o3, bs, e3⟩ := spot57 hB ho (b := b + 4) (mono o2 (by omega)) bl bh hX
    obtain ⟨w, d4, o4, bw, nw, e4⟩ := way57 hB ho (b := b) (mono o3 (by omega)) hX
    refine ⟨s, w, d4, o4, bs, bw.mono (by decide), nw, ?_⟩
    simp only [↓ev_V, ↓ev_C, ↓ev_O, ↓ev_U, ↓ev_Nil, ↓ev_Cons, ↓ev_L, ↓ev_If, ↓ev_tV, ↓ev_tTr, ↓ev_tAn, ↓ev_tOr, ↓ev_tNo, ↓ev_NotB, ↓ev_AnB, ↓ev_OrB, ↓ev_Tup, ↓ev_Lst, ↓ev_CP, ↓ev_ML, ↓ev_Sli, ↓ev_oN, ↓ev_oS, ↓ev_Ch, ↓ev_gN, ↓ev_gsNil, ↓ev_gsCons, ↓ev_gT, ↓ev_Seq, ↓ev_Asg, ↓ev_Par, ↓ev_Ret, ↓ev_Drop, ↓ev_sIf, ↓ev_Next, ↓ev_Brk, ↓ev_Cont, ↓ev_RetN, ↓ev_Sub, ↓ev_For, ↓ev_body, ↓ev_iE, ↓ev_iR1, ↓ev_iR2, ↓ev_iZ, ↓ev_iEn, ↓ev_item, ↓ev_Lc, ↓ev_Yes, ↓ev_Par3, ↓ev_As2, ↓ev_As4, ↓ev_CV, ↓ev_Fld, ↓ev_Mk, ↓ev_Mk0, ↓ev_Mt, ↓ev_ForM, ↓ev_bodyM, ↓ev_gTmT, ↓ev_gTmR, ↓ev_AsgM, ↓ev_Star, ↓ev_Dc, ↓ev_iRr, ↓ev_iRv, ↓ev_iZ3, ↓ev_iZ4, ↓ev_LR2, kForM_e, kAsgM_e, kSt1_e, kSt2_e, kSt3_e, seqT, seqRf, popRf, insRf, inE, notInE, kDc_e, kRr_e, kRv_e, revT, revL, vOf_e, kO_e, kO2_e, kU_e, kCons_e, kCons2_e, kL_e, kIf_t, kIf_f, kB_e, kTr_e, kTr2_e, kAn_t, kAn_f, kOr_t, kOr_f, kNo_e, kNotB_e, kAnB_t, kAnB_f, kOrB_t, kOrB_f, kTup_e, kLst_e, kCP_e, kD_e, kML_e, kML2_e, kS1_e, kS2_e, kS3_e, kI_e, kCh1_e, kCh2_e, kCh3_t, kCh3_f, kAsg_e, kNx_e, kRet_e, kDrop_e, kSif_t, kSif_f, kSub1_e, kSub2_e, kSub3_e, kNxM_e, kFor_e, kBody_e, kIE_e, kSrc_e, kR1_e, kR2_e, kR2b_e, kZ1_e, kZ2_e, kEn_e, kMap_e, kMap2_e, kIt1_e, kIt2_t, kIt2_f, kSome_e, kLc_e, kLc2_e, kGc_e, par3_e, kAs2_e, kAs3_e, kAs4_e, kAs5_e, kAs6_e, fnOf2_e, fnV_e, kCV_e, kFld1_e, kFld2_e, kMk_e, kMk2_e, kMt_e, kMt2_e, kMt3_e, gFldE, setFE, metE, insAt_zero, insAt_succ, ob_s, ob_n, then_nx, then_rt, then_bk, then_ct, par2_e, turn_nx, turn_ct, turn_bk, turn_rt, runT_nil, runT_cons, mapT_nil, mapT_cons, finP_nx, finM_rt, finM_nx, addE, subE, negE, cmpE, ixT, truI, truB, at0, at1, at2, at3, List.getElem?_cons_zero, List.getElem?_cons_succ, List.set_cons_zero, List.set_cons_succ, List.length_cons, List.length_nil, Nat.reduceAdd, Nat.reduceLeDiff, if_true, if_false, reduceIte, reduceCtorEq, id_eq, Bool.not_true, Bool.not_false, Bool.false_eq_true, and_self, Int.reduceLE, Int.reduceLT, Int.reduceNeg, decide_true, decide_false, Option.toList_some, Option.toList_none, List.cons_append, List.nil_append, ixRf, tupRf, lenRf, listRf, isLstRf, appRf, revRf, setRf, itemsRf, itemsT, itemsL, zipT, zipRf, allRf, anyRf, sumRf, tupT, slRf, isiE, t2E, lenT, lstAt_zero, lstAt_succ, Option.isSome_some, Nat.reduceLT, Bool.or_true, Bool.or_false, Bool.true_or, Bool.false_or, gIsN, gNotN, D.isNon, wipeD, isBlE, notBlE, min1Rf, kZa_e, kZb_e, kZc_e, kZd_e, kZe_e, kZa4_e, kZb4_e, kLRa_e, kLRb_e, zip3T, zip4T, List.length_append, M57_len, e1, e2, e3, e4, eqIb, beq_self_eq_true, show ((1 : Int) == 0) = false from rfl]
    rw [gc570 hB hX d4 rfl]
  obtain ⟨s, d3, o3, bs, e3⟩ := spot57 hB ho (b := b + 4) (mono o2 (by omega)) bl bh hX
  have l1 := lless57 bs.1 bp.1 (by decide)
  have l2 := lless57 bs.2.1 bp.2.1 (by decide)
  have l3 := lless57 bs.2.2 bp.2.2 (by decide)
  have c1 : Rb 110 (s.x - pl.x) := (bs.1.sub bp.1).mono (by decide)
  have c2 : Rb 110 (s.y - pl.y) := (bs.2.1.sub bp.2.1).mono (by decide)
  have c3 : Rb 110 (s.z - pl.z) := (bs.2.2.sub bp.2.2).mono (by decide)
  generalize s.x - pl.x = q1 at l1 c1
  generalize s.y - pl.y = q2 at l2 c2
  generalize s.z - pl.z = q3 at l3 c3
  have r0 : Rb 110 (0 : Rat) := rb_int (x := 0) (by decide) (by unfold Bt; decide)
  have rh : Rb 110 (⟨-1, 2, by decide, by decide⟩ : Rat) := ⟨by unfold Bt; decide, by unfold Bt; decide⟩
  have hh : D.tup [.int (-1), .int 2] = eF ⟨-1, 2, by decide, by decide⟩ := rfl
  have v0 : (v == 0) = false := by simp; omega
  have v1' : (v == 1) = false := by simp; omega
  obtain rfl | rfl | rfl : v = 2 ∨ v = 3 ∨ v = 4 := by omega
  · obtain ⟨u, d4, o4, u1, u2, e4⟩ := take57 hB ho (b := b + 1) (mono o3 (by omega)) (many := 3) (by decide) (by decide) (X := X ++ [.lst [eF q1, eF q2, eF q3]]) (all_app hX rfl)
    obtain ⟨q, p', i1, bp', e5⟩ := put57 pl s (bp.mono (show 20 ≤ 80 by decide)) bs (Nat.le_refl _) u1 u2
    obtain ⟨un, a1, a2, a3, hun, hst, ba⟩ : ∃ (un : Nat) (a1 a2 a3 : Rat), ixN 3 u = some un ∧ [eF q1, eF q2, eF q3].set un (eF 0) = [eF a1, eF a2, eF a3] ∧ P3.B 110 ⟨a1, a2, a3⟩ := by
      have : u = 0 ∨ u = 1 ∨ u = 2 := by omega
      rcases this with rfl | rfl | rfl
      · exact ⟨0, 0, q2, q3, rfl, rfl, r0, c2, c3⟩
      · exact ⟨1, q1, 0, q3, rfl, rfl, c1, r0, c3⟩
      · exact ⟨2, q1, q2, 0, rfl, rfl, c1, c2, r0⟩
    have qe : ∀ (c : Cell), gEq (.rf (B.length + 3 + X.length)) (.rf (B.length + 3 + (X.length + 2))) (M57 B ones d4 ++ (X ++ [.lst [eF a1, eF a2, eF a3], c, .lst [eF 0, eF 0, eF 0]])) = some (.bl (decide (a1 = 0 ∧ a2 = 0 ∧ a3 = 0)), M57 B ones d4 ++ (X ++ [.lst [eF a1, eF a2, eF a3], c, .lst [eF 0, eF 0, eF 0]])) := fun c => eqthree (g57 d4 X _) (gi57 d4 X _ 2)
    by_cases hz : a1 = 0 ∧ a2 = 0 ∧ a3 = 0
    · obtain ⟨u', d5, o5, u1', u2', e6⟩ := take57 hB ho (b := b) o4 (many := 3) (by decide) (by decide) (X := X ++ [.lst [eF a1, eF a2, eF a3], .lst [eF 0], .lst [eF 0, eF 0, eF 0]]) (all_app hX rfl)
      obtain ⟨un', w, hu', hw, bw, nw⟩ := set57 a1 a2 a3 ⟨-1, 2, by decide, by decide⟩ (by decide) u1' u2' ba.1 ba.2.1 ba.2.2 rh
      have hd : decide (a1 = 0 ∧ a2 = 0 ∧ a3 = 0) = true := decide_eq_true hz
      refine ⟨p', w, d5, o5, bp', bw, nw, ?_⟩
      simp only [↓ev_V, ↓ev_C, ↓ev_O, ↓ev_U, ↓ev_Nil, ↓ev_Cons, ↓ev_L, ↓ev_If, ↓ev_tV, ↓ev_tTr, ↓ev_tAn, ↓ev_tOr, ↓ev_tNo, ↓ev_NotB, ↓ev_AnB, ↓ev_OrB, ↓ev_Tup, ↓ev_Lst, ↓ev_CP, ↓ev_ML, ↓ev_Sli, ↓ev_oN, ↓ev_oS, ↓ev_Ch, ↓ev_gN, ↓ev_gsNil, ↓ev_gsCons, ↓ev_gT, ↓ev_Seq, ↓ev_Asg, ↓ev_Par, ↓ev_Ret, ↓ev_Drop, ↓ev_sIf, ↓ev_Next, ↓ev_Brk, ↓ev_Cont, ↓ev_RetN, ↓ev_Sub, ↓ev_For, ↓ev_body, ↓ev_iE, ↓ev_iR1, ↓ev_iR2, ↓ev_iZ, ↓ev_iEn, ↓ev_item, ↓ev_Lc, ↓ev_Yes, ↓ev_Par3, ↓ev_As2, ↓ev_As4, ↓ev_CV, ↓ev_Fld, ↓ev_Mk, ↓ev_Mk0, ↓ev_Mt, ↓ev_ForM, ↓ev_bodyM, ↓ev_gTmT, ↓ev_gTmR, ↓ev_AsgM, ↓ev_Star, ↓ev_Dc, ↓ev_iRr, ↓ev_iRv, ↓ev_iZ3, ↓ev_iZ4, ↓ev_LR2, kForM_e, kAsgM_e, kSt1_e, kSt2_e, kSt3_e, seqT, seqRf, popRf, insRf, inE, notInE, kDc_e, kRr_e, kRv_e, revT, revL, vOf_e, kO_e, kO2_e, kU_e, kCons_e, kCons2_e, kL_e, kIf_t, kIf_f, kB_e, kTr_e, kTr2_e, kAn_t, kAn_f, kOr_t, kOr_f, kNo_e, kNotB_e, kAnB_t, kAnB_f, kOrB_t, kOrB_f, kTup_e, kLst_e, kCP_e, kD_e, kML_e, kML2_e, kS1_e, kS2_e, kS3_e, kI_e, kCh1_e, kCh2_e, kCh3_t, kCh3_f, kAsg_e, kNx_e, kRet_e, kDrop_e, kSif_t, kSif_f, kSub1_e, kSub2_e, kSub3_e, kNxM_e, kFor_e, kBody_e, kIE_e, kSrc_e, kR1_e, kR2_e, kR2b_e, kZ1_e, kZ2_e, kEn_e, kMap_e, kMap2_e, kIt1_e, kIt2_t, kIt2_f, kSome_e, kLc_e, kLc2_e, kGc_e, par3_e, kAs2_e, kAs3_e, kAs4_e, kAs5_e, kAs6_e, fnOf2_e, fnV_e, kCV_e, kFld1_e, kFld2_e, kMk_e, kMk2_e, kMt_e, kMt2_e, kMt3_e, gFldE, setFE, metE, insAt_zero, insAt_succ, ob_s, ob_n, then_nx, then_rt, then_bk, then_ct, par2_e, turn_nx, turn_ct, turn_bk, turn_rt, runT_nil, runT_cons, mapT_nil, mapT_cons, finP_nx, finM_rt, finM_nx, addE, subE, negE, cmpE, ixT, truI, truB, at0, at1, at2, at3, List.getElem?_cons_zero, List.getElem?_cons_succ, List.set_cons_zero, List.set_cons_succ, List.length_cons, List.length_nil, Nat.reduceAdd, Nat.reduceLeDiff, if_true, if_false, reduceIte, reduceCtorEq, id_eq, Bool.not_true, Bool.not_false, Bool.false_eq_true, and_self, Int.reduceLE, Int.reduceLT, Int.reduceNeg, decide_true, decide_false, Option.toList_some, Option.toList_none, List.cons_append, List.nil_append, ixRf, tupRf, lenRf, listRf, isLstRf, appRf, revRf, setRf, itemsRf, itemsT, itemsL, zipT, zipRf, allRf, anyRf, sumRf, tupT, slRf, isiE, t2E, lenT, lstAt_zero, lstAt_succ, Option.isSome_some, Nat.reduceLT, Bool.or_true, Bool.or_false, Bool.true_or, Bool.false_or, gIsN, gNotN, D.isNon, wipeD, isBlE, notBlE, min1Rf, kZa_e, kZb_e, kZc_e, kZd_e, kZe_e, kZa4_e, kZb4_e, kLRa_e, kLRb_e, zip3T, zip4T, upto3, List.append_assoc, List.length_append, List.append_nil, M57_len, e1, e2, e3, eqIb, show ((2 : Int) == 0) = false from rfl, show ((2 : Int) == 1) = false from rfl, show ((2 : Int) == 2) = true from rfl, show ((2 : Int) == 3) = false from rfl, ix_eP0, ix_eP1, ix_eP2, l1, l2, l3, e4, i1, e5, z57, zi57, s57, eF01, hh, hun, hst, rep57, qe, hd, e6, hu', hw]
      rw [tup3, gc57' hB hX d5 rfl]
    · have hd : decide (a1 = 0 ∧ a2 = 0 ∧ a3 = 0) = false := decide_eq_false hz
      refine ⟨p', ⟨a1, a2, a3⟩, d4, mono o4 (by omega), bp', ba, hz, ?_⟩
      simp only [↓ev_V, ↓ev_C, ↓ev_O, ↓ev_U, ↓ev_Nil, ↓ev_Cons, ↓ev_L, ↓ev_If, ↓ev_tV, ↓ev_tTr, ↓ev_tAn, ↓ev_tOr, ↓ev_tNo, ↓ev_NotB, ↓ev_AnB, ↓ev_OrB, ↓ev_Tup, ↓ev_Lst, ↓ev_CP, ↓ev_ML, ↓ev_Sli, ↓ev_oN, ↓ev_oS, ↓ev_Ch, ↓ev_gN, ↓ev_gsNil, ↓ev_gsCons, ↓ev_gT, ↓ev_Seq, ↓ev_Asg, ↓ev_Par, ↓ev_Ret, ↓ev_Drop, ↓ev_sIf, ↓ev_Next, ↓ev_Brk, ↓ev_Cont, ↓ev_RetN, ↓ev_Sub, ↓ev_For, ↓ev_body, ↓ev_iE, ↓ev_iR1, ↓ev_iR2, ↓ev_iZ, ↓ev_iEn, ↓ev_item, ↓ev_Lc, ↓ev_Yes, ↓ev_Par3, ↓ev_As2, ↓ev_As4, ↓ev_CV, ↓ev_Fld, ↓ev_Mk, ↓ev_Mk0, ↓ev_Mt, ↓ev_ForM, ↓ev_bodyM, ↓ev_gTmT, ↓ev_gTmR, ↓ev_AsgM, ↓ev_Star, ↓ev_Dc, ↓ev_iRr, ↓ev_iRv, ↓ev_iZ3, ↓ev_iZ4, ↓ev_LR2, kForM_e, kAsgM_e, kSt1_e, kSt2_e, kSt3_e, seqT, seqRf, popRf, insRf, inE, notInE, kDc_e, kRr_e, kRv_e, revT, revL, vOf_e, kO_e, kO2_e, kU_e, kCons_e, kCons2_e, kL_e, kIf_t, kIf_f, kB_e, kTr_e, kTr2_e, kAn_t, kAn_f, kOr_t, kOr_f, kNo_e, kNotB_e, kAnB_t, kAnB_f, kOrB_t, kOrB_f, kTup_e, kLst_e, kCP_e, kD_e, kML_e, kML2_e, kS1_e, kS2_e, kS3_e, kI_e, kCh1_e, kCh2_e, kCh3_t, kCh3_f, kAsg_e, kNx_e, kRet_e, kDrop_e, kSif_t, kSif_f, kSub1_e, kSub2_e, kSub3_e, kNxM_e, kFor_e, kBody_e, kIE_e, kSrc_e, kR1_e, kR2_e, kR2b_e, kZ1_e, kZ2_e, kEn_e, kMap_e, kMap2_e, kIt1_e, kIt2_t, kIt2_f, kSome_e, kLc_e, kLc2_e, kGc_e, par3_e, kAs2_e, kAs3_e, kAs4_e, kAs5_e, kAs6_e, fnOf2_e, fnV_e, kCV_e, kFld1_e, kFld2_e, kMk_e, kMk2_e, kMt_e, kMt2_e, kMt3_e, gFldE, setFE, metE, insAt_zero, insAt_succ, ob_s, ob_n, then_nx, then_rt, then_bk, then_ct, par2_e, turn_nx, turn_ct, turn_bk, turn_rt, runT_nil, runT_cons, mapT_nil, mapT_cons, finP_nx, finM_rt, finM_nx, addE, subE, negE, cmpE, ixT, truI, truB, at0, at1, at2, at3, List.getElem?_cons_zero, List.getElem?_cons_succ, List.set_cons_zero, List.set_cons_succ, List.length_cons, List.length_nil, Nat.reduceAdd, Nat.reduceLeDiff, if_true, if_false, reduceIte, reduceCtorEq, id_eq, Bool.not_true, Bool.not_false, Bool.false_eq_true, and_self, Int.reduceLE, Int.reduceLT, Int.reduceNeg, decide_true, decide_false, Option.toList_some, Option.toList_none, List.cons_append, List.nil_append, ixRf, tupRf, lenRf, listRf, isLstRf, appRf, revRf, setRf, itemsRf, itemsT, itemsL, zipT, zipRf, allRf, anyRf, sumRf, tupT, slRf, isiE, t2E, lenT, lstAt_zero, lstAt_succ, Option.isSome_some, Nat.reduceLT, Bool.or_true, Bool.or_false, Bool.true_or, Bool.false_or, gIsN, gNotN, D.isNon, wipeD, isBlE, notBlE, min1Rf, kZa_e, kZb_e, kZc_e, kZd_e, kZe_e, kZa4_e, kZb4_e, kLRa_e, kLRb_e, zip3T, zip4T, upto3, List.append_assoc, List.length_append, List.append_nil, M57_len, e1, e2, e3, eqIb, show ((2 : Int) == 0) = false from rfl, show ((2 : Int) == 1) = false from rfl, show ((2 : Int) == 2) = true from rfl, show ((2 : Int) == 3) = false from rfl, ix_eP0, ix_eP1, ix_eP2, l1, l2, l3, e4, i1, e5, z57, zi57, s57, eF01, hun, hst, rep57, qe, hd]
      rw [tup3 ⟨a1, a2, a3⟩, gc57' hB hX d4 rfl]
  · have qe : ∀ (c c' : Cell), gEq (.rf (B.length + 3 + (X.length + 1))) (.rf (B.length + 3 + (X.length + 3))) (M57 B ones d3 ++ (X ++ [c', .lst [eF (-q1), eF (-q2), eF (-q3)], c, .lst [eF 0, eF 0, eF 0]])) = some (.bl (decide (-q1 = 0 ∧ -q2 = 0 ∧ -q3 = 0)), M57 B ones d3 ++ (X ++ [c', .lst [eF (-q1), eF (-q2), eF (-q3)], c, .lst [eF 0, eF 0, eF 0]])) := fun c c' => eqthree (gi57 d3 X _ 1) (gi57 d3 X _ 3)
    have mp := fun it => mapC_cons (l := B.length + 3 + X.length) (xs := [eF q1, eF q2, eF q3]) (M := M57 B ones d3 ++ (X ++ [.lst [eF q1, eF q2, eF q3]])) it (h := g57 d3 X _)
    have mn := fun it => mapC_nil (l := B.length + 3 + X.length) (xs := [eF q1, eF q2, eF q3]) (M := M57 B ones d3 ++ (X ++ [.lst [eF q1, eF q2, eF q3]])) it (h := g57 d3 X _)
    by_cases hz : -q1 = 0 ∧ -q2 = 0 ∧ -q3 = 0
    · obtain ⟨u', d5, o5, u1', u2', e6⟩ := take57 hB ho (b := b) (mono o3 (by omega)) (many := 3) (by decide) (by decide) (X := X ++ [.lst [eF q1, eF q2, eF q3], .lst [eF (-q1), eF (-q2), eF (-q3)], .lst [eF 0], .lst [eF 0, eF 0, eF 0]]) (all_app hX rfl)
      obtain ⟨un', w, hu', hw, bw, nw⟩ := set57 (-q1) (-q2) (-q3) ⟨-1, 2, by decide, by decide⟩ (by decide) u1' u2' c1.neg57 c2.neg57 c3.neg57 rh
      have hd : decide (-q1 = 0 ∧ -q2 = 0 ∧ -q3 = 0) = true := decide_eq_true hz
      refine ⟨pl, w, d5, o5, bp.mono (by decide), bw, nw, ?_⟩
      simp only [↓ev_V, ↓ev_C, ↓ev_O, ↓ev_U, ↓ev_Nil, ↓ev_Cons, ↓ev_L, ↓ev_If, ↓ev_tV, ↓ev_tTr, ↓ev_tAn, ↓ev_tOr, ↓ev_tNo, ↓ev_NotB, ↓ev_AnB, ↓ev_OrB, ↓ev_Tup, ↓ev_Lst, ↓ev_CP, ↓ev_ML, ↓ev_Sli, ↓ev_oN, ↓ev_oS, ↓ev_Ch, ↓ev_gN, ↓ev_gsNil, ↓ev_gsCons, ↓ev_gT, ↓ev_Seq, ↓ev_Asg, ↓ev_Par, ↓ev_Ret, ↓ev_Drop, ↓ev_sIf, ↓ev_Next, ↓ev_Brk, ↓ev_Cont, ↓ev_RetN, ↓ev_Sub, ↓ev_For, ↓ev_body, ↓ev_iE, ↓ev_iR1, ↓ev_iR2, ↓ev_iZ, ↓ev_iEn, ↓ev_item, ↓ev_Lc, ↓ev_Yes, ↓ev_Par3, ↓ev_As2, ↓ev_As4, ↓ev_CV, ↓ev_Fld, ↓ev_Mk, ↓ev_Mk0, ↓ev_Mt, ↓ev_ForM, ↓ev_bodyM, ↓ev_gTmT, ↓ev_gTmR, ↓ev_AsgM, ↓ev_Star, ↓ev_Dc, ↓ev_iRr, ↓ev_iRv, ↓ev_iZ3, ↓ev_iZ4, ↓ev_LR2, kForM_e, kAsgM_e, kSt1_e, kSt2_e, kSt3_e, seqT, seqRf, popRf, insRf, inE, notInE, kDc_e, kRr_e, kRv_e, revT, revL, vOf_e, kO_e, kO2_e, kU_e, kCons_e, kCons2_e, kL_e, kIf_t, kIf_f, kB_e, kTr_e, kTr2_e, kAn_t, kAn_f, kOr_t, kOr_f, kNo_e, kNotB_e, kAnB_t, kAnB_f, kOrB_t, kOrB_f, kTup_e, kLst_e, kCP_e, kD_e, kML_e, kML2_e, kS1_e, kS2_e, kS3_e, kI_e, kCh1_e, kCh2_e, kCh3_t, kCh3_f, kAsg_e, kNx_e, kRet_e, kDrop_e, kSif_t, kSif_f, kSub1_e, kSub2_e, kSub3_e, kNxM_e, kFor_e, kBody_e, kIE_e, kSrc_e, kR1_e, kR2_e, kR2b_e, kZ1_e, kZ2_e, kEn_e, kMap_e, kMap2_e, kIt1_e, kIt2_t, kIt2_f, kSome_e, kLc_e, kLc2_e, kGc_e, par3_e, kAs2_e, kAs3_e, kAs4_e, kAs5_e, kAs6_e, fnOf2_e, fnV_e, kCV_e, kFld1_e, kFld2_e, kMk_e, kMk2_e, kMt_e, kMt2_e, kMt3_e, gFldE, setFE, metE, insAt_zero, insAt_succ, ob_s, ob_n, then_nx, then_rt, then_bk, then_ct, par2_e, turn_nx, turn_ct, turn_bk, turn_rt, runT_nil, runT_cons, mapT_nil, mapT_cons, finP_nx, finM_rt, finM_nx, addE, subE, negE, cmpE, ixT, truI, truB, at0, at1, at2, at3, List.getElem?_cons_zero, List.getElem?_cons_succ, List.set_cons_zero, List.set_cons_succ, List.length_cons, List.length_nil, Nat.reduceAdd, Nat.reduceLeDiff, if_true, if_false, reduceIte, reduceCtorEq, id_eq, Bool.not_true, Bool.not_false, Bool.false_eq_true, and_self, Int.reduceLE, Int.reduceLT, Int.reduceNeg, decide_true, decide_false, Option.toList_some, Option.toList_none, List.cons_append, List.nil_append, ixRf, tupRf, lenRf, listRf, isLstRf, appRf, revRf, setRf, itemsRf, itemsT, itemsL, zipT, zipRf, allRf, anyRf, sumRf, tupT, slRf, isiE, t2E, lenT, lstAt_zero, lstAt_succ, Option.isSome_some, Nat.reduceLT, Bool.or_true, Bool.or_false, Bool.true_or, Bool.false_or, gIsN, gNotN, D.isNon, wipeD, isBlE, notBlE, min1Rf, kZa_e, kZb_e, kZc_e, kZd_e, kZe_e, kZa4_e, kZb4_e, kLRa_e, kLRb_e, zip3T, zip4T, upto3, List.append_assoc, List.length_append, List.append_nil, M57_len, e1, e2, e3, eqIb, show ((3 : Int) == 0) = false from rfl, show ((3 : Int) == 1) = false from rfl, show ((3 : Int) == 2) = false from rfl, show ((3 : Int) == 3) = true from rfl, ix_eP0, ix_eP1, ix_eP2, l1, l2, l3, z57, zi57, s57, eF01, hh, rep57, qe, hd, e6, hu', hw, mp, mn, ix_eF0, ix_eF1, eFneg, si57]
      rw [tup3, gc57' hB hX d5 rfl]
    · have hd : decide (-q1 = 0 ∧ -q2 = 0 ∧ -q3 = 0) = false := decide_eq_false hz
      refine ⟨pl, ⟨-q1, -q2, -q3⟩, d3, mono o3 (by omega), bp.mono (by decide), ⟨c1.neg57, c2.neg57, c3.neg57⟩, hz, ?_⟩
      simp only [↓ev_V, ↓ev_C, ↓ev_O, ↓ev_U, ↓ev_Nil, ↓ev_Cons, ↓ev_L, ↓ev_If, ↓ev_tV, ↓ev_tTr, ↓ev_tAn, ↓ev_tOr, ↓ev_tNo, ↓ev_NotB, ↓ev_AnB, ↓ev_OrB, ↓ev_Tup, ↓ev_Lst, ↓ev_CP, ↓ev_ML, ↓ev_Sli, ↓ev_oN, ↓ev_oS, ↓ev_Ch, ↓ev_gN, ↓ev_gsNil, ↓ev_gsCons, ↓ev_gT, ↓ev_Seq, ↓ev_Asg, ↓ev_Par, ↓ev_Ret, ↓ev_Drop, ↓ev_sIf, ↓ev_Next, ↓ev_Brk, ↓ev_Cont, ↓ev_RetN, ↓ev_Sub, ↓ev_For, ↓ev_body, ↓ev_iE, ↓ev_iR1, ↓ev_iR2, ↓ev_iZ, ↓ev_iEn, ↓ev_item, ↓ev_Lc, ↓ev_Yes, ↓ev_Par3, ↓ev_As2, ↓ev_As4, ↓ev_CV, ↓ev_Fld, ↓ev_Mk, ↓ev_Mk0, ↓ev_Mt, ↓ev_ForM, ↓ev_bodyM, ↓ev_gTmT, ↓ev_gTmR, ↓ev_AsgM, ↓ev_Star, ↓ev_Dc, ↓ev_iRr, ↓ev_iRv, ↓ev_iZ3, ↓ev_iZ4, ↓ev_LR2, kForM_e, kAsgM_e, kSt1_e, kSt2_e, kSt3_e, seqT, seqRf, popRf, insRf, inE, notInE, kDc_e, kRr_e, kRv_e, revT, revL, vOf_e, kO_e, kO2_e, kU_e, kCons_e, kCons2_e, kL_e, kIf_t, kIf_f, kB_e, kTr_e, kTr2_e, kAn_t, kAn_f, kOr_t, kOr_f, kNo_e, kNotB_e, kAnB_t, kAnB_f, kOrB_t, kOrB_f, kTup_e, kLst_e, kCP_e, kD_e, kML_e, kML2_e, kS1_e, kS2_e, kS3_e, kI_e, kCh1_e, kCh2_e, kCh3_t, kCh3_f, kAsg_e, kNx_e, kRet_e, kDrop_e, kSif_t, kSif_f, kSub1_e, kSub2_e, kSub3_e, kNxM_e, kFor_e, kBody_e, kIE_e, kSrc_e, kR1_e, kR2_e, kR2b_e, kZ1_e, kZ2_e, kEn_e, kMap_e, kMap2_e, kIt1_e, kIt2_t, kIt2_f, kSome_e, kLc_e, kLc2_e, kGc_e, par3_e, kAs2_e, kAs3_e, kAs4_e, kAs5_e, kAs6_e, fnOf2_e, fnV_e, kCV_e, kFld1_e, kFld2_e, kMk_e, kMk2_e, kMt_e, kMt2_e, kMt3_e, gFldE, setFE, metE, insAt_zero, insAt_succ, ob_s, ob_n, then_nx, then_rt, then_bk, then_ct, par2_e, turn_nx, turn_ct, turn_bk, turn_rt, runT_nil, runT_cons, mapT_nil, mapT_cons, finP_nx, finM_rt, finM_nx, addE, subE, negE, cmpE, ixT, truI, truB, at0, at1, at2, at3, List.getElem?_cons_zero, List.getElem?_cons_succ, List.set_cons_zero, List.set_cons_succ, List.length_cons, List.length_nil, Nat.reduceAdd, Nat.reduceLeDiff, if_true, if_false, reduceIte, reduceCtorEq, id_eq, Bool.not_true, Bool.not_false, Bool.false_eq_true, and_self, Int.reduceLE, Int.reduceLT, Int.reduceNeg, decide_true, decide_false, Option.toList_some, Option.toList_none, List.cons_append, List.nil_append, ixRf, tupRf, lenRf, listRf, isLstRf, appRf, revRf, setRf, itemsRf, itemsT, itemsL, zipT, zipRf, allRf, anyRf, sumRf, tupT, slRf, isiE, t2E, lenT, lstAt_zero, lstAt_succ, Option.isSome_some, Nat.reduceLT, Bool.or_true, Bool.or_false, Bool.true_or, Bool.false_or, gIsN, gNotN, D.isNon, wipeD, isBlE, notBlE, min1Rf, kZa_e, kZb_e, kZc_e, kZd_e, kZe_e, kZa4_e, kZb4_e, kLRa_e, kLRb_e, zip3T, zip4T, upto3, List.append_assoc, List.length_append, List.append_nil, M57_len, e1, e2, e3, eqIb, show ((3 : Int) == 0) = false from rfl, show ((3 : Int) == 1) = false from rfl, show ((3 : Int) == 2) = false from rfl, show ((3 : Int) == 3) = true from rfl, ix_eP0, ix_eP1, ix_eP2, l1, l2, l3, z57, zi57, s57, eF01, rep57, qe, hd, mp, mn, ix_eF0, ix_eF1, eFneg]
      rw [tup3 ⟨-q1, -q2, -q3⟩, gc57' hB hX d3 rfl]
  · have qe : ∀ (c : Cell), gEq (.rf (B.length + 3 + X.length)) (.rf (B.length + 3 + (X.length + 2))) (M57 B ones d3 ++ (X ++ [.lst [eF q1, eF q2, eF q3], c, .lst [eF 0, eF 0, eF 0]])) = some (.bl (decide (q1 = 0 ∧ q2 = 0 ∧ q3 = 0)), M57 B ones d3 ++ (X ++ [.lst [eF q1, eF q2, eF q3], c, .lst [eF 0, eF 0, eF 0]])) := fun c => eqthree (g57 d3 X _) (gi57 d3 X _ 2)
    by_cases hz : q1 = 0 ∧ q2 = 0 ∧ q3 = 0
    · obtain ⟨u', d5, o5, u1', u2', e6⟩ := take57 hB ho (b := b) (mono o3 (by omega)) (many := 3) (by decide) (by decide) (X := X ++ [.lst [eF q1, eF q2, eF q3], .lst [eF 0], .lst [eF 0, eF 0, eF 0]]) (all_app hX rfl)
      obtain ⟨un', w, hu', hw, bw, nw⟩ := set57 q1 q2 q3 ⟨-1, 2, by decide, by decide⟩ (by decide) u1' u2' c1 c2 c3 rh
      have hd : decide (q1 = 0 ∧ q2 = 0 ∧ q3 = 0) = true := decide_eq_true hz
      refine ⟨pl, w, d5, o5, bp.mono (by decide), bw, nw, ?_⟩
      simp only [↓ev_V, ↓ev_C, ↓ev_O, ↓ev_U, ↓ev_Nil, ↓ev_Cons, ↓ev_L, ↓ev_If, ↓ev_tV, ↓ev_tTr, ↓ev_tAn, ↓ev_tOr, ↓ev_tNo, ↓ev_NotB, ↓ev_AnB, ↓ev_OrB, ↓ev_Tup, ↓ev_Lst, ↓ev_CP, ↓ev_ML, ↓ev_Sli, ↓ev_oN, ↓ev_oS, ↓ev_Ch, ↓ev_gN, ↓ev_gsNil, ↓ev_gsCons, ↓ev_gT, ↓ev_Seq, ↓ev_Asg, ↓ev_Par, ↓ev_Ret, ↓ev_Drop, ↓ev_sIf, ↓ev_Next, ↓ev_Brk, ↓ev_Cont, ↓ev_RetN, ↓ev_Sub, ↓ev_For, ↓ev_body, ↓ev_iE, ↓ev_iR1, ↓ev_iR2, ↓ev_iZ, ↓ev_iEn, ↓ev_item, ↓ev_Lc, ↓ev_Yes, ↓ev_Par3, ↓ev_As2, ↓ev_As4, ↓ev_CV, ↓ev_Fld, ↓ev_Mk, ↓ev_Mk0, ↓ev_Mt, ↓ev_ForM, ↓ev_bodyM, ↓ev_gTmT, ↓ev_gTmR, ↓ev_AsgM, ↓ev_Star, ↓ev_Dc, ↓ev_iRr, ↓ev_iRv, ↓ev_iZ3, ↓ev_iZ4, ↓ev_LR2, kForM_e, kAsgM_e, kSt1_e, kSt2_e, kSt3_e, seqT, seqRf, popRf, insRf, inE, notInE, kDc_e, kRr_e, kRv_e, revT, revL, vOf_e, kO_e, kO2_e, kU_e, kCons_e, kCons2_e, kL_e, kIf_t, kIf_f, kB_e, kTr_e, kTr2_e, kAn_t, kAn_f, kOr_t, kOr_f, kNo_e, kNotB_e, kAnB_t, kAnB_f, kOrB_t, kOrB_f, kTup_e, kLst_e, kCP_e, kD_e, kML_e, kML2_e, kS1_e, kS2_e, kS3_e, kI_e, kCh1_e, kCh2_e, kCh3_t, kCh3_f, kAsg_e, kNx_e, kRet_e, kDrop_e, kSif_t, kSif_f, kSub1_e, kSub2_e, kSub3_e, kNxM_e, kFor_e, kBody_e, kIE_e, kSrc_e, kR1_e, kR2_e, kR2b_e, kZ1_e, kZ2_e, kEn_e, kMap_e, kMap2_e, kIt1_e, kIt2_t, kIt2_f, kSome_e, kLc_e, kLc2_e, kGc_e, par3_e, kAs2_e, kAs3_e, kAs4_e, kAs5_e, kAs6_e, fnOf2_e, fnV_e, kCV_e, kFld1_e, kFld2_e, kMk_e, kMk2_e, kMt_e, kMt2_e, kMt3_e, gFldE, setFE, metE, insAt_zero, insAt_succ, ob_s, ob_n, then_nx, then_rt, then_bk, then_ct, par2_e, turn_nx, turn_ct, turn_bk, turn_rt, runT_nil, runT_cons, mapT_nil, mapT_cons, finP_nx, finM_rt, finM_nx, addE, subE, negE, cmpE, ixT, truI, truB, at0, at1, at2, at3, List.getElem?_cons_zero, List.getElem?_cons_succ, List.set_cons_zero, List.set_cons_succ, List.length_cons, List.length_nil, Nat.reduceAdd, Nat.reduceLeDiff, if_true, if_false, reduceIte, reduceCtorEq, id_eq, Bool.not_true, Bool.not_false, Bool.false_eq_true, and_self, Int.reduceLE, Int.reduceLT, Int.reduceNeg, decide_true, decide_false, Option.toList_some, Option.toList_none, List.cons_append, List.nil_append, ixRf, tupRf, lenRf, listRf, isLstRf, appRf, revRf, setRf, itemsRf, itemsT, itemsL, zipT, zipRf, allRf, anyRf, sumRf, tupT, slRf, isiE, t2E, lenT, lstAt_zero, lstAt_succ, Option.isSome_some, Nat.reduceLT, Bool.or_true, Bool.or_false, Bool.true_or, Bool.false_or, gIsN, gNotN, D.isNon, wipeD, isBlE, notBlE, min1Rf, kZa_e, kZb_e, kZc_e, kZd_e, kZe_e, kZa4_e, kZb4_e, kLRa_e, kLRb_e, zip3T, zip4T, upto3, List.append_assoc, List.length_append, List.append_nil, M57_len, e1, e2, e3, eqIb, show ((4 : Int) == 0) = false from rfl, show ((4 : Int) == 1) = false from rfl, show ((4 : Int) == 2) = false from rfl, show ((4 : Int) == 3) = false from rfl, ix_eP0, ix_eP1, ix_eP2, l1, l2, l3, z57, zi57, s57, eF01, hh, rep57, qe, hd, e6, hu', hw]
      rw [tup3, gc57' hB hX d5 rfl]
    · have hd : decide (q1 = 0 ∧ q2 = 0 ∧ q3 = 0) = false := decide_eq_false hz
      refine ⟨pl, ⟨q1, q2, q3⟩, d3, mono o3 (by omega), bp.mono (by decide), ⟨c1, c2, c3⟩, hz, ?_⟩
      simp only [↓ev_V, ↓ev_C, ↓ev_O, ↓ev_U, ↓ev_Nil, ↓ev_Cons, ↓ev_L, ↓ev_If, ↓ev_tV, ↓ev_tTr, ↓ev_tAn, ↓ev_tOr, ↓ev_tNo, ↓ev_NotB, ↓ev_AnB, ↓ev_OrB, ↓ev_Tup, ↓ev_Lst, ↓ev_CP, ↓ev_ML, ↓ev_Sli, ↓ev_oN, ↓ev_oS, ↓ev_Ch, ↓ev_gN, ↓ev_gsNil, ↓ev_gsCons, ↓ev_gT, ↓ev_Seq, ↓ev_Asg, ↓ev_Par, ↓ev_Ret, ↓ev_Drop, ↓ev_sIf, ↓ev_Next, ↓ev_Brk, ↓ev_Cont, ↓ev_RetN, ↓ev_Sub, ↓ev_For, ↓ev_body, ↓ev_iE, ↓ev_iR1, ↓ev_iR2, ↓ev_iZ, ↓ev_iEn, ↓ev_item, ↓ev_Lc, ↓ev_Yes, ↓ev_Par3, ↓ev_As2, ↓ev_As4, ↓ev_CV, ↓ev_Fld, ↓ev_Mk, ↓ev_Mk0, ↓ev_Mt, ↓ev_ForM, ↓ev_bodyM, ↓ev_gTmT, ↓ev_gTmR, ↓ev_AsgM, ↓ev_Star, ↓ev_Dc, ↓ev_iRr, ↓ev_iRv, ↓ev_iZ3, ↓ev_iZ4, ↓ev_LR2, kForM_e, kAsgM_e, kSt1_e, kSt2_e, kSt3_e, seqT, seqRf, popRf, insRf, inE, notInE, kDc_e, kRr_e, kRv_e, revT, revL, vOf_e, kO_e, kO2_e, kU_e, kCons_e, kCons2_e, kL_e, kIf_t, kIf_f, kB_e, kTr_e, kTr2_e, kAn_t, kAn_f, kOr_t, kOr_f, kNo_e, kNotB_e, kAnB_t, kAnB_f, kOrB_t, kOrB_f, kTup_e, kLst_e, kCP_e, kD_e, kML_e, kML2_e, kS1_e, kS2_e, kS3_e, kI_e, kCh1_e, kCh2_e, kCh3_t, kCh3_f, kAsg_e, kNx_e, kRet_e, kDrop_e, kSif_t, kSif_f, kSub1_e, kSub2_e, kSub3_e, kNxM_e, kFor_e, kBody_e, kIE_e, kSrc_e, kR1_e, kR2_e, kR2b_e, kZ1_e, kZ2_e, kEn_e, kMap_e, kMap2_e, kIt1_e, kIt2_t, kIt2_f, kSome_e, kLc_e, kLc2_e, kGc_e, par3_e, kAs2_e, kAs3_e, kAs4_e, kAs5_e, kAs6_e, fnOf2_e, fnV_e, kCV_e, kFld1_e, kFld2_e, kMk_e, kMk2_e, kMt_e, kMt2_e, kMt3_e, gFldE, setFE, metE, insAt_zero, insAt_succ, ob_s, ob_n, then_nx, then_rt, then_bk, then_ct, par2_e, turn_nx, turn_ct, turn_bk, turn_rt, runT_nil, runT_cons, mapT_nil, mapT_cons, finP_nx, finM_rt, finM_nx, addE, subE, negE, cmpE, ixT, truI, truB, at0, at1, at2, at3, List.getElem?_cons_zero, List.getElem?_cons_succ, List.set_cons_zero, List.set_cons_succ, List.length_cons, List.length_nil, Nat.reduceAdd, Nat.reduceLeDiff, if_true, if_false, reduceIte, reduceCtorEq, id_eq, Bool.not_true, Bool.not_false, Bool.false_eq_true, and_self, Int.reduceLE, Int.reduceLT, Int.reduceNeg, decide_true, decide_false, Option.toList_some, Option.toList_none, List.cons_append, List.nil_append, ixRf, tupRf, lenRf, listRf, isLstRf, appRf, revRf, setRf, itemsRf, itemsT, itemsL, zipT, zipRf, allRf, anyRf, sumRf, tupT, slRf, isiE, t2E, lenT, lstAt_zero, lstAt_succ, Option.isSome_some, Nat.reduceLT, Bool.or_true, Bool.or_false, Bool.true_or, Bool.false_or, gIsN, gNotN, D.isNon, wipeD, isBlE, notBlE, min1Rf, kZa_e, kZb_e, kZc_e, kZd_e, kZe_e, kZa4_e, kZb4_e, kLRa_e, kLRb_e, zip3T, zip4T, upto3, List.append_assoc, List.length_append, List.append_nil, M57_len, e1, e2, e3, eqIb, show ((4 : Int) == 0) = false from rfl, show ((4 : Int) == 1) = false from rfl, show ((4 : Int) == 2) = false from rfl, show ((4 : Int) == 3) = false from rfl, ix_eP0, ix_eP1, ix_eP2, l1, l2, l3, z57, zi57, s57, eF01, rep57, qe, hd]
      rw [tup3 ⟨q1, q2, q3⟩, gc57' hB hX d3 rfl]
end

/- a loop that may go on or return -/
theorem W.runRC {gd : Mem → Prop} {body : D → Rho → Mem → Option (Fl × Mem)} {Q : Fl × Mem → Prop} {f : Fl × Mem → Option (Fl × Mem)} (I : Nat → Rho → Mem → Prop) (R : D → Mem → Prop) {ds : List D} {ρ : Rho} {M : Mem} (h0 : I 0 ρ M) (hg : ∀ i ρ M, I i ρ M → gd M)
    (step : ∀ (j : Nat) (d : D), ds[j]? = some d → ∀ ρ M, I j ρ M → W (body d ρ M) fun y => (∃ ρ' M', (y = (.nx ρ', M') ∨ y = (.ct ρ', M')) ∧ I (j + 1) ρ' M') ∨ ∃ v M', y = (.rt v, M') ∧ R v M') (k : ∀ ρ' M', I ds.length ρ' M' → W (f (.nx ρ', M')) Q) (kr : ∀ v M', R v M' → W (f (.rt v, M')) Q) : W (ob (runG gd body ds ρ M) f) Q := by
  have key : ∀ (l : List D) (n : Nat) (ρ : Rho) (M : Mem), (∀ (j : Nat) (d : D), l[j]? = some d → ds[n + j]? = some d) → I n ρ M → (∃ ρ' M', runG gd body l ρ M = some (.nx ρ', M') ∧ I (n + l.length) ρ' M') ∨ ∃ v M', runG gd body l ρ M = some (.rt v, M') ∧ R v M' := by
    intro l
    induction l with
    | nil => exact fun n ρ M _ i => .inl ⟨ρ, M, runG_nil _ _ _ _ (hg n ρ M i), i⟩
    | cons d l ih =>
      intro n ρ M hl i
      obtain ⟨y, e, s⟩ := step n d (hl 0 d rfl) ρ M i
      rcases s with ⟨ρ1, M1, hy, i1⟩ | ⟨v, M1, rfl, r1⟩
      · have e' : ob (body d ρ M) (turn (runG gd body l)) = runG gd body l ρ1 M1 := by
          rw [e]
          rcases hy with rfl | rfl <;> rfl
        rcases ih (n + 1) ρ1 M1 (fun j d' hd => by
          have := hl (j + 1) d' (by simpa using hd)
          rw [show n + (j + 1) = n + 1 + j by omega] at this
          exact this) i1 with ⟨ρ2, M2, e2, i2⟩ | ⟨v, M2, e2, r2⟩
        · exact .inl ⟨ρ2, M2, by rw [runG_cons _ _ _ _ _ _ (hg n ρ M i), e']; exact e2, by rw [List.length_cons, show n + (l.length + 1) = n + 1 + l.length by omega]; exact i2⟩
        · exact .inr ⟨v, M2, by rw [runG_cons _ _ _ _ _ _ (hg n ρ M i), e']; exact e2, r2⟩
      · exact .inr ⟨v, M1, by rw [runG_cons _ _ _ _ _ _ (hg n ρ M i), e]; rfl, r1⟩
  rcases key ds 0 ρ M (fun j d hd => by simpa using hd) h0 with ⟨ρ', M', e, i⟩ | ⟨v, M', e, r⟩
  · rw [Nat.zero_add] at i
    obtain ⟨z, e2, q⟩ := k ρ' M' i
    exact ⟨z, by rw [e]; exact e2, q⟩
  · obtain ⟨z, e2, q⟩ := kr v M' r
    exact ⟨z, by rw [e]; exact e2, q⟩

/-! ### when a ray is in a closed box, axis by axis -/
def axB (l h a w : Rat) : Option (Option (Rat × Rat)) := if w = 0 then (if a < l ∨ h < a then none else some none) else if 0 < w then some (some ((l - a) / w, (h - a) / w)) else some (some ((h - a) / w, (l - a) / w))
def stB : Option (Option (Rat × Rat)) → Option (Rat × List Rat) → Option (Rat × List Rat)
  | _, none => none
  | none, _ => none
  | some none, s => s
  | some (some p), some s => some (if s.1 < p.1 then p.1 else s.1, s.2 ++ [p.2])
def mnB : List Rat → Option Rat
  | [] => none
  | x :: l => some (l.foldl (extS (-1)) x)
theorem mnB_snoc (l : List Rat) (t : Rat) : mnB (l ++ [t]) = some (match mnB l with
    | none => t
    | some e => if t < e then t else e) := by
  cases l with
  | nil => rfl
  | cons x l =>
    show some ((l ++ [t]).foldl (extS (-1)) x) = some _
    rw [List.foldl_append]
    show some (extS (-1) _ t) = _
    rw [extS_dn]
    rfl
def axsB (lo hi p w : P3) : List (Option (Option (Rat × Rat))) := [axB lo.x hi.x p.x w.x, axB lo.y hi.y p.y w.y, axB lo.z hi.z p.z w.z]
def foldB (l : List (Option (Option (Rat × Rat)))) : Option (Rat × List Rat) := l.foldl (fun s a => stB a s) (some (0, []))
/- what it comes to -/
def outB (lo hi p w : P3) : Option (Rat × Rat) := match foldB (axsB lo hi p w) with
  | none => none
  | some s => match mnB s.2 with
    | none => none
    | some e => if e < s.1 then none else some (s.1, e)
def eOut : Option (Rat × Rat) → D
  | none => .non
  | some s => .tup [eF s.1, eF s.2]
theorem foldB_none : ∀ l, List.foldl (fun s a => stB a s) none l = none
  | [] => rfl
  | a :: l => by
    rw [List.foldl_cons, show stB a none = none from by cases a <;> rfl]
    exact foldB_none l
/- sizes of what is reckoned on the way -/
def SzB (n : Nat) (s : Rat × List Rat) : Prop := Rb n s.1 ∧ ∀ t ∈ s.2, Rb n t
theorem stB_sz {n : Nat} {s s' : Rat × List Rat} {a : Option (Option (Rat × Rat))} (h : SzB n s) (ha : ∀ p, a = some (some p) → Rb n p.1 ∧ Rb n p.2) (e : stB a (some s) = some s') : SzB n s' := by
  cases a with
  | none => cases e
  | some a =>
    cases a with
    | none => cases e; exact h
    | some p =>
      cases e
      obtain ⟨h1, h2⟩ := ha p rfl
      refine ⟨?_, fun t ht => ?_⟩
      · show Rb n (if s.1 < p.1 then p.1 else s.1)
        split
        · exact h1
        · exact h.1
      · rcases List.mem_append.mp ht with ht | ht
        · exact h.2 t ht
        · rw [List.mem_singleton.mp ht]
          exact h2
theorem axB_sz {m n k : Nat} {l h a w : Rat} (hl : Rb m l) (hh : Rb m h) (ha : Rb n a) (hw : Rb k w) : ∀ p, axB l h a w = some (some p) → Rb (m + n + 1 + k) p.1 ∧ Rb (m + n + 1 + k) p.2 := fun p e => by
  unfold axB at e
  split at e
  · split at e <;> cases e
  · next hz =>
    split at e
    · cases e
      exact ⟨(hl.sub ha).div hw hz, (hh.sub ha).div hw hz⟩
    · cases e
      exact ⟨(hh.sub ha).div hw hz, (hl.sub ha).div hw hz⟩
theorem side_e {m n k : Nat} {l h a w : Rat} (hl : Rb m l) (hh : Rb m h) (ha : Rb n a) (hw : Rb k w) (hb : m + n + 1 + k ≤ 4000) (hz : w ≠ 0) : ∃ p, axB l h a w = some (some p) ∧ m_side_moments [eF l, eF h, eF a, eF w] = some (.tup [eF p.1, eF p.2]) := by
  have m1 := minus_e hl ha (by omega)
  have m2 := minus_e hh ha (by omega)
  have o1 := over_e (hl.sub ha) hw (by omega) hz
  have o2 := over_e (hh.sub ha) hw (by omega) hz
  by_cases c : 0 < w
  · have nl : ¬ w < 0 := by grind
    refine ⟨((l - a) / w, (h - a) / w), by unfold axB; rw [if_neg hz, if_pos c], ?_⟩
    rw [e_side_moments _ _ _ _ rfl]
    unfold b_side_moments
    simp only [↓ev_V, ↓ev_C, ↓ev_O, ↓ev_U, ↓ev_Nil, ↓ev_Cons, ↓ev_L, ↓ev_If, ↓ev_tV, ↓ev_tTr, ↓ev_tAn, ↓ev_tOr, ↓ev_tNo, ↓ev_NotB, ↓ev_AnB, ↓ev_OrB, ↓ev_Tup, ↓ev_Lst, ↓ev_CP, ↓ev_ML, ↓ev_Sli, ↓ev_oN, ↓ev_oS, ↓ev_Ch, ↓ev_gN, ↓ev_gsNil, ↓ev_gsCons, ↓ev_gT, ↓ev_Seq, ↓ev_Asg, ↓ev_Par, ↓ev_Ret, ↓ev_Drop, ↓ev_sIf, ↓ev_Next, ↓ev_Brk, ↓ev_Cont, ↓ev_RetN, ↓ev_Sub, ↓ev_For, ↓ev_body, ↓ev_iE, ↓ev_iR1, ↓ev_iR2, ↓ev_iZ, ↓ev_iEn, ↓ev_item, ↓ev_Lc, ↓ev_Yes, ↓ev_Par3, ↓ev_As2, ↓ev_As4, ↓ev_CV, ↓ev_Fld, ↓ev_Mk, ↓ev_Mk0, ↓ev_Mt, ↓ev_ForM, ↓ev_bodyM, ↓ev_gTmT, ↓ev_gTmR, ↓ev_AsgM, ↓ev_Star, ↓ev_Dc, ↓ev_iRr, ↓ev_iRv, ↓ev_iZ3, ↓ev_iZ4, ↓ev_LR2, kForM_e, kAsgM_e, kSt1_e, kSt2_e, kSt3_e, seqT, seqRf, popRf, insRf, inE, notInE, kDc_e, kRr_e, kRv_e, revT, revL, vOf_e, kO_e, kO2_e, kU_e, kCons_e, kCons2_e, kL_e, kIf_t, kIf_f, kB_e, kTr_e, kTr2_e, kAn_t, kAn_f, kOr_t, kOr_f, kNo_e, kNotB_e, kAnB_t, kAnB_f, kOrB_t, kOrB_f, kTup_e, kLst_e, kCP_e, kD_e, kML_e, kML2_e, kS1_e, kS2_e, kS3_e, kI_e, kCh1_e, kCh2_e, kCh3_t, kCh3_f, kAsg_e, kNx_e, kRet_e, kDrop_e, kSif_t, kSif_f, kSub1_e, kSub2_e, kSub3_e, kNxM_e, kFor_e, kBody_e, kIE_e, kSrc_e, kR1_e, kR2_e, kR2b_e, kZ1_e, kZ2_e, kEn_e, kMap_e, kMap2_e, kIt1_e, kIt2_t, kIt2_f, kSome_e, kLc_e, kLc2_e, kGc_e, par3_e, kAs2_e, kAs3_e, kAs4_e, kAs5_e, kAs6_e, fnOf2_e, fnV_e, kCV_e, kFld1_e, kFld2_e, kMk_e, kMk2_e, kMt_e, kMt2_e, kMt3_e, gFldE, setFE, metE, insAt_zero, insAt_succ, ob_s, ob_n, then_nx, then_rt, then_bk, then_ct, par2_e, turn_nx, turn_ct, turn_bk, turn_rt, runT_nil, runT_cons, mapT_nil, mapT_cons, finP_nx, finM_rt, finM_nx, addE, subE, negE, cmpE, ixT, truI, truB, at0, at1, at2, at3, List.getElem?_cons_zero, List.getElem?_cons_succ, List.set_cons_zero, List.set_cons_succ, List.length_cons, List.length_nil, Nat.reduceAdd, Nat.reduceLeDiff, if_true, if_false, reduceIte, reduceCtorEq, id_eq, Bool.not_true, Bool.not_false, Bool.false_eq_true, and_self, Int.reduceLE, Int.reduceLT, Int.reduceNeg, decide_true, decide_false, Option.toList_some, Option.toList_none, List.cons_append, List.nil_append, ixRf, tupRf, lenRf, listRf, isLstRf, appRf, revRf, setRf, itemsRf, itemsT, itemsL, zipT, zipRf, allRf, anyRf, sumRf, tupT, slRf, isiE, t2E, lenT, lstAt_zero, lstAt_succ, Option.isSome_some, Nat.reduceLT, Bool.or_true, Bool.or_false, Bool.true_or, Bool.false_or, gIsN, gNotN, D.isNon, wipeD, isBlE, notBlE, min1Rf, kZa_e, kZb_e, kZc_e, kZd_e, kZe_e, kZa4_e, kZb4_e, kLRa_e, kLRb_e, zip3T, zip4T, m1, m2, o1, o2, sign_e, if_pos c, if_neg nl, show decide ((1 : Int) > 0) = true from rfl]
    exact finP_rt _ _ rfl
  · have nl : w < 0 := by grind
    refine ⟨((h - a) / w, (l - a) / w), by unfold axB; rw [if_neg hz, if_neg c], ?_⟩
    rw [e_side_moments _ _ _ _ rfl]
    unfold b_side_moments
    simp only [↓ev_V, ↓ev_C, ↓ev_O, ↓ev_U, ↓ev_Nil, ↓ev_Cons, ↓ev_L, ↓ev_If, ↓ev_tV, ↓ev_tTr, ↓ev_tAn, ↓ev_tOr, ↓ev_tNo, ↓ev_NotB, ↓ev_AnB, ↓ev_OrB, ↓ev_Tup, ↓ev_Lst, ↓ev_CP, ↓ev_ML, ↓ev_Sli, ↓ev_oN, ↓ev_oS, ↓ev_Ch, ↓ev_gN, ↓ev_gsNil, ↓ev_gsCons, ↓ev_gT, ↓ev_Seq, ↓ev_Asg, ↓ev_Par, ↓ev_Ret, ↓ev_Drop, ↓ev_sIf, ↓ev_Next, ↓ev_Brk, ↓ev_Cont, ↓ev_RetN, ↓ev_Sub, ↓ev_For, ↓ev_body, ↓ev_iE, ↓ev_iR1, ↓ev_iR2, ↓ev_iZ, ↓ev_iEn, ↓ev_item, ↓ev_Lc, ↓ev_Yes, ↓ev_Par3, ↓ev_As2, ↓ev_As4, ↓ev_CV, ↓ev_Fld, ↓ev_Mk, ↓ev_Mk0, ↓ev_Mt, ↓ev_ForM, ↓ev_bodyM, ↓ev_gTmT, ↓ev_gTmR, ↓ev_AsgM, ↓ev_Star, ↓ev_Dc, ↓ev_iRr, ↓ev_iRv, ↓ev_iZ3, ↓ev_iZ4, ↓ev_LR2, kForM_e, kAsgM_e, kSt1_e, kSt2_e, kSt3_e, seqT, seqRf, popRf, insRf, inE, notInE, kDc_e, kRr_e, kRv_e, revT, revL, vOf_e, kO_e, kO2_e, kU_e, kCons_e, kCons2_e, kL_e, kIf_t, kIf_f, kB_e, kTr_e, kTr2_e, kAn_t, kAn_f, kOr_t, kOr_f, kNo_e, kNotB_e, kAnB_t, kAnB_f, kOrB_t, kOrB_f, kTup_e, kLst_e, kCP_e, kD_e, kML_e, kML2_e, kS1_e, kS2_e, kS3_e, kI_e, kCh1_e, kCh2_e, kCh3_t, kCh3_f, kAsg_e, kNx_e, kRet_e, kDrop_e, kSif_t, kSif_f, kSub1_e, kSub2_e, kSub3_e, kNxM_e, kFor_e, kBody_e, kIE_e, kSrc_e, kR1_e, kR2_e, kR2b_e, kZ1_e, kZ2_e, kEn_e, kMap_e, kMap2_e, kIt1_e, kIt2_t, kIt2_f, kSome_e, kLc_e, kLc2_e, kGc_e, par3_e, kAs2_e, kAs3_e, kAs4_e, kAs5_e, kAs6_e, fnOf2_e, fnV_e, kCV_e, kFld1_e, kFld2_e, kMk_e, kMk2_e, kMt_e, kMt2_e, kMt3_e, gFldE, setFE, metE, insAt_zero, insAt_succ, ob_s, ob_n, then_nx, then_rt, then_bk, then_ct, par2_e, turn_nx, turn_ct, turn_bk, turn_rt, runT_nil, runT_cons, mapT_nil, mapT_cons, finP_nx, finM_rt, finM_nx, addE, subE, negE, cmpE, ixT, truI, truB, at0, at1, at2, at3, List.getElem?_cons_zero, List.getElem?_cons_succ, List.set_cons_zero, List.set_cons_succ, List.length_cons, List.length_nil, Nat.reduceAdd, Nat.reduceLeDiff, if_true, if_false, reduceIte, reduceCtorEq, id_eq, Bool.not_true, Bool.not_false, Bool.false_eq_true, and_self, Int.reduceLE, Int.reduceLT, Int.reduceNeg, decide_true, decide_false, Option.toList_some, Option.toList_none, List.cons_append, List.nil_append, ixRf, tupRf, lenRf, listRf, isLstRf, appRf, revRf, setRf, itemsRf, itemsT, itemsL, zipT, zipRf, allRf, anyRf, sumRf, tupT, slRf, isiE, t2E, lenT, lstAt_zero, lstAt_succ, Option.isSome_some, Nat.reduceLT, Bool.or_true, Bool.or_false, Bool.true_or, Bool.false_or, gIsN, gNotN, D.isNon, wipeD, isBlE, notBlE, min1Rf, kZa_e, kZb_e, kZc_e, kZd_e, kZe_e, kZa4_e, kZb4_e, kLRa_e, kLRb_e, zip3T, zip4T, m1, m2, o1, o2, sign_e, if_pos nl, show decide ((-1 : Int) > 0) = false from rfl]
    exact finP_rt _ _ rfl
theorem neB {a : D} {p : PyData} (hp : a.py = some p) (sp : SeqAt.shaped p = true) (hn : PyData.eqv p (.tuple []) = false) (M : Mem) : gEq a (.tup []) M = some (.bl false, M) := by
  rw [show gEq = gEqB false from rfl, eqD (x := a) (y := .tup []) hp rfl sp rfl]
  rw [hn]
  rfl
def pyP (p : P3) : PyData := .tuple [.tuple [.int p.x.num, .int p.x.den], .tuple [.int p.y.num, .int p.y.den], .tuple [.int p.z.num, .int p.z.den]]
theorem box_ne (lo hi : P3) (M : Mem) : gEq (.tup [eP lo, eP hi]) (.tup []) M = some (.bl false, M) := neB (p := .tuple [pyP lo, pyP hi]) rfl rfl rfl M
theorem foldB_take {l : List (Option (Option (Rat × Rat)))} {j : Nat} {a : Option (Option (Rat × Rat))} (h : l[j]? = some a) : foldB (l.take (j + 1)) = stB a (foldB (l.take j)) := by
  unfold foldB
  rw [List.take_add_one, h]
  show List.foldl _ _ (l.take j ++ [a]) = _
  rw [List.foldl_append]
  rfl
theorem foldB_dead {l : List (Option (Option (Rat × Rat)))} {j : Nat} (h : foldB (l.take j) = none) : foldB l = none := by
  have e : foldB (l.take j ++ l.drop j) = none := by
    unfold foldB at h ⊢
    rw [List.foldl_append, h]
    exact foldB_none _
  rwa [List.take_append_drop] at e
theorem axs_get (lo hi p w : P3) {j : Nat} {d : D} (h : (quads [eF lo.x, eF lo.y, eF lo.z] [eF hi.x, eF hi.y, eF hi.z] [eF p.x, eF p.y, eF p.z] [eF w.x, eF w.y, eF w.z])[j]? = some d) : ∃ l hh a ww, d = .tup [eF l, eF hh, eF a, eF ww] ∧ (axsB lo hi p w)[j]? = some (axB l hh a ww) ∧ ∀ m n k o : Nat, lo.B m → hi.B n → p.B k → w.B o → Rb m l ∧ Rb n hh ∧ Rb k a ∧ Rb o ww := by
  match j, h with
  | 0, h => cases h; exact ⟨_, _, _, _, rfl, rfl, fun _ _ _ _ h1 h2 h3 h4 => ⟨h1.1, h2.1, h3.1, h4.1⟩⟩
  | 1, h => cases h; exact ⟨_, _, _, _, rfl, rfl, fun _ _ _ _ h1 h2 h3 h4 => ⟨h1.2.1, h2.2.1, h3.2.1, h4.2.1⟩⟩
  | 2, h => cases h; exact ⟨_, _, _, _, rfl, rfl, fun _ _ _ _ h1 h2 h3 h4 => ⟨h1.2.2, h2.2.2, h3.2.2, h4.2.2⟩⟩
  | (n + 3), h => cases h
/- somewhere there is an end -/
theorem foldB_end {lo hi p w : P3} (hw : w.ne) {s : Rat × List Rat} (e : foldB (axsB lo hi p w) = some s) : s.2 ≠ [] := by
  have grow : ∀ (a : Option (Option (Rat × Rat))) (s s' : Rat × List Rat), stB a (some s) = some s' → s.2.length ≤ s'.2.length ∧ (∀ p, a = some (some p) → s'.2 ≠ []) := fun a s s' e => by
    cases a with
    | none => cases e
    | some a =>
      cases a with
      | none => cases e; exact ⟨Nat.le_refl _, fun p h => by cases h⟩
      | some p => cases e; exact ⟨by simp, fun _ _ => by simp⟩
  have ax : ∀ l h a w : Rat, w ≠ 0 → ∃ p, axB l h a w = some (some p) := fun l h a w hz => by
    unfold axB
    rw [if_neg hz]
    split
    · exact ⟨_, rfl⟩
    · exact ⟨_, rfl⟩
  have e' : stB (axB lo.z hi.z p.z w.z) (stB (axB lo.y hi.y p.y w.y) (stB (axB lo.x hi.x p.x w.x) (some (0, [])))) = some s := e
  have alive : ∀ a x y, stB a x = some y → ∃ z, x = some z := fun a x y h => by
    cases x with
    | none => cases a <;> cases h
    | some z => exact ⟨z, rfl⟩
  obtain ⟨s2, e2⟩ := alive _ _ _ e'
  rw [e2] at e'
  obtain ⟨s1, e1⟩ := alive _ _ _ e2
  rw [e1] at e2
  obtain ⟨g1, k1⟩ := grow _ _ _ e1
  obtain ⟨g2, k2⟩ := grow _ _ _ e2
  obtain ⟨g3, k3⟩ := grow _ _ _ e'
  intro z
  have z0 : s.2.length = 0 := by rw [z]; rfl
  have nil : ∀ l : List Rat, l.length = 0 → l = [] := fun l h => List.length_eq_zero_iff.mp h
  by_cases hx : w.x = 0
  · by_cases hy : w.y = 0
    · have hz : w.z ≠ 0 := fun hz => hw ⟨hx, hy, hz⟩
      obtain ⟨q, hq⟩ := ax lo.z hi.z p.z w.z hz
      exact k3 q hq z
    · obtain ⟨q, hq⟩ := ax lo.y hi.y p.y w.y hy
      exact k2 q hq (nil _ (by omega))
  · obtain ⟨q, hq⟩ := ax lo.x hi.x p.x w.x hx
    exact k1 q hq (nil _ (by omega))
theorem stretchB_e {m n k o : Nat} {lo hi p w : P3} (hlo : lo.B m) (hhi : hi.B n) (hp : p.B k) (hw : w.B o) (ne : w.ne) (hb : m + n + k + o ≤ 3000) : m_box_stretch [.tup [eP lo, eP hi], .tup [eP p, eP w]] = some (eOut (outB lo hi p w)) := by
  have lo0 : D.los 0 [.tup [eP lo, eP hi], .tup [eP p, eP w]] = true := rfl
  have fin : W (b_box_stretch [some (.tup [eP lo, eP hi]), some (.tup [eP p, eP w]), none, none, none, none, none, none, none, none, none] []) fun y => ∃ M, y = (.rt (eOut (outB lo hi p w)), M) := by
    unfold b_box_stretch
    have z4 : zipOf4 (eP lo) (eP hi) (eP p) (eP w) = some (quads [eF lo.x, eF lo.y, eF lo.z] [eF hi.x, eF hi.y, eF hi.z] [eF p.x, eF p.y, eF p.z] [eF w.x, eF w.y, eF w.z]) := rfl
    have n0 : D.tup [.int 0, .int 1] = eF 0 := rfl
    simp only [↓ev_V, ↓ev_C, ↓ev_O, ↓ev_U, ↓ev_Nil, ↓ev_Cons, ↓ev_L, ↓ev_If, ↓ev_tV, ↓ev_tTr, ↓ev_tAn, ↓ev_tOr, ↓ev_tNo, ↓ev_NotB, ↓ev_AnB, ↓ev_OrB, ↓ev_Tup, ↓ev_Lst, ↓ev_CP, ↓ev_ML, ↓ev_Sli, ↓ev_oN, ↓ev_oS, ↓ev_Ch, ↓ev_gN, ↓ev_gsNil, ↓ev_gsCons, ↓ev_gT, ↓ev_Seq, ↓ev_Asg, ↓ev_Par, ↓ev_Ret, ↓ev_Drop, ↓ev_sIf, ↓ev_Next, ↓ev_Brk, ↓ev_Cont, ↓ev_RetN, ↓ev_Sub, ↓ev_For, ↓ev_body, ↓ev_iE, ↓ev_iR1, ↓ev_iR2, ↓ev_iZ, ↓ev_iEn, ↓ev_item, ↓ev_Lc, ↓ev_Yes, ↓ev_Par3, ↓ev_As2, ↓ev_As4, ↓ev_CV, ↓ev_Fld, ↓ev_Mk, ↓ev_Mk0, ↓ev_Mt, ↓ev_ForM, ↓ev_bodyM, ↓ev_gTmT, ↓ev_gTmR, ↓ev_AsgM, ↓ev_Star, ↓ev_Dc, ↓ev_iRr, ↓ev_iRv, ↓ev_iZ3, ↓ev_iZ4, ↓ev_LR2, kForM_e, kAsgM_e, kSt1_e, kSt2_e, kSt3_e, seqT, seqRf, popRf, insRf, inE, notInE, kDc_e, kRr_e, kRv_e, revT, revL, vOf_e, kO_e, kO2_e, kU_e, kCons_e, kCons2_e, kL_e, kIf_t, kIf_f, kB_e, kTr_e, kTr2_e, kAn_t, kAn_f, kOr_t, kOr_f, kNo_e, kNotB_e, kAnB_t, kAnB_f, kOrB_t, kOrB_f, kTup_e, kLst_e, kCP_e, kD_e, kML_e, kML2_e, kS1_e, kS2_e, kS3_e, kI_e, kCh1_e, kCh2_e, kCh3_t, kCh3_f, kAsg_e, kNx_e, kRet_e, kDrop_e, kSif_t, kSif_f, kSub1_e, kSub2_e, kSub3_e, kNxM_e, kFor_e, kBody_e, kIE_e, kSrc_e, kR1_e, kR2_e, kR2b_e, kZ1_e, kZ2_e, kEn_e, kMap_e, kMap2_e, kIt1_e, kIt2_t, kIt2_f, kSome_e, kLc_e, kLc2_e, kGc_e, par3_e, kAs2_e, kAs3_e, kAs4_e, kAs5_e, kAs6_e, fnOf2_e, fnV_e, kCV_e, kFld1_e, kFld2_e, kMk_e, kMk2_e, kMt_e, kMt2_e, kMt3_e, gFldE, setFE, metE, insAt_zero, insAt_succ, ob_s, ob_n, then_nx, then_rt, then_bk, then_ct, par2_e, turn_ct, turn_bk, turn_rt, runT_nil, runT_cons, mapT_nil, mapT_cons, finP_nx, finM_rt, finM_nx, addE, subE, negE, cmpE, ixT, truI, truB, at0, at1, at2, at3, List.getElem?_cons_zero, List.getElem?_cons_succ, List.set_cons_zero, List.set_cons_succ, List.length_cons, List.length_nil, Nat.reduceAdd, Nat.reduceLeDiff, if_true, if_false, reduceIte, reduceCtorEq, id_eq, Bool.not_true, Bool.not_false, Bool.false_eq_true, and_self, Int.reduceLE, Int.reduceLT, Int.reduceNeg, decide_true, decide_false, Option.toList_some, Option.toList_none, List.cons_append, List.nil_append, ixRf, tupRf, lenRf, listRf, isLstRf, appRf, revRf, setRf, itemsRf, itemsT, itemsL, zipT, zipRf, allRf, anyRf, sumRf, tupT, slRf, isiE, t2E, lenT, lstAt_zero, lstAt_succ, Option.isSome_some, Nat.reduceLT, Bool.or_true, Bool.or_false, Bool.true_or, Bool.false_or, gIsN, gNotN, D.isNon, wipeD, isBlE, notBlE, min1Rf, kZa_e, kZb_e, kZc_e, kZd_e, kZe_e, kZa4_e, kZb4_e, kLRa_e, kLRb_e, zip3T, zip4T, box_ne, z4, n0]
    have ln : (quads [eF lo.x, eF lo.y, eF lo.z] [eF hi.x, eF hi.y, eF hi.z] [eF p.x, eF p.y, eF p.z] [eF w.x, eF w.y, eF w.z]).length = 3 := rfl
    refine W.runRC (fun j ρ M => ∃ b es x4 x5 x6 x7 x8 x9 x10 C, SzB (m + n + k + 1 + o) (b, es) ∧ es.length ≤ j ∧ foldB ((axsB lo hi p w).take j) = some (b, es) ∧ ρ = [some (.tup [eP lo, eP hi]), some (.tup [eP p, eP w]), some (eF b), some (.rf 0), x4, x5, x6, x7, x8, x9, x10] ∧ M = .lst (es.map eF) :: C) (fun v M => v = .non ∧ foldB (axsB lo hi p w) = none) ⟨0, [], none, none, none, none, none, none, none, [], ⟨⟨by unfold Bt; exact Nat.two_pow_pos _, by unfold Bt; exact Nat.one_lt_two_pow (by omega)⟩, fun _ h => (by cases h)⟩, Nat.le_refl _, rfl, rfl, rfl⟩ (fun _ _ _ _ => trivial) ?_ ?_ ?_
    · rintro j d hd ρ M ⟨b, es, x4, x5, x6, x7, x8, x9, x10, C, sz, el, hf, rfl, rfl⟩
      obtain ⟨l, hh, a, ww, rfl, hax, hsz⟩ := axs_get lo hi p w hd
      obtain ⟨s1, s2, s3, s4⟩ := hsz m n k o hlo hhi hp hw
      have hj : j < 3 := by have := (List.getElem?_eq_some_iff.mp hd).1; rwa [ln] at this
      have nxt := foldB_take hax
      rw [hf] at nxt
      have t4 : ∀ ρ, gT 4 (gsCons (gN 4) (gsCons (gN 5) (gsCons (gN 6) (gsCons (gN 7) gsNil)))) (.tup [eF l, eF hh, eF a, eF ww]) ρ = some ((((ρ.set 4 (some (eF l))).set 5 (some (eF hh))).set 6 (some (eF a))).set 7 (some (eF ww))) := fun _ => rfl
      have m1 := minus_e s3 s1 (show k + m ≤ 9000 by omega)
      have m2 := minus_e s2 s3 (show n + k ≤ 9000 by omega)
      by_cases hz : ww = 0
      · have sg : (if ww < 0 then (-1 : Int) else if 0 < ww then 1 else 0) = 0 := by rw [if_neg (by grind), if_neg (by grind)]
        by_cases c1 : a < l
        · have a0 : axB l hh a ww = none := by unfold axB; rw [if_pos hz, if_pos (.inl c1)]
          rw [a0] at nxt
          have q1 : (if a - l < 0 then (-1 : Int) else if 0 < a - l then 1 else 0) = -1 := by rw [if_pos (by grind)]
          simp only [↓ev_V, ↓ev_C, ↓ev_O, ↓ev_U, ↓ev_Nil, ↓ev_Cons, ↓ev_L, ↓ev_If, ↓ev_tV, ↓ev_tTr, ↓ev_tAn, ↓ev_tOr, ↓ev_tNo, ↓ev_NotB, ↓ev_AnB, ↓ev_OrB, ↓ev_Tup, ↓ev_Lst, ↓ev_CP, ↓ev_ML, ↓ev_Sli, ↓ev_oN, ↓ev_oS, ↓ev_Ch, ↓ev_gN, ↓ev_gsNil, ↓ev_gsCons, ↓ev_gT, ↓ev_Seq, ↓ev_Asg, ↓ev_Par, ↓ev_Ret, ↓ev_Drop, ↓ev_sIf, ↓ev_Next, ↓ev_Brk, ↓ev_Cont, ↓ev_RetN, ↓ev_Sub, ↓ev_For, ↓ev_body, ↓ev_iE, ↓ev_iR1, ↓ev_iR2, ↓ev_iZ, ↓ev_iEn, ↓ev_item, ↓ev_Lc, ↓ev_Yes, ↓ev_Par3, ↓ev_As2, ↓ev_As4, ↓ev_CV, ↓ev_Fld, ↓ev_Mk, ↓ev_Mk0, ↓ev_Mt, ↓ev_ForM, ↓ev_bodyM, ↓ev_gTmT, ↓ev_gTmR, ↓ev_AsgM, ↓ev_Star, ↓ev_Dc, ↓ev_iRr, ↓ev_iRv, ↓ev_iZ3, ↓ev_iZ4, ↓ev_LR2, kForM_e, kAsgM_e, kSt1_e, kSt2_e, kSt3_e, seqT, seqRf, popRf, insRf, inE, notInE, kDc_e, kRr_e, kRv_e, revT, revL, vOf_e, kO_e, kO2_e, kU_e, kCons_e, kCons2_e, kL_e, kIf_t, kIf_f, kB_e, kTr_e, kTr2_e, kAn_t, kAn_f, kOr_t, kOr_f, kNo_e, kNotB_e, kAnB_t, kAnB_f, kOrB_t, kOrB_f, kTup_e, kLst_e, kCP_e, kD_e, kML_e, kML2_e, kS1_e, kS2_e, kS3_e, kI_e, kCh1_e, kCh2_e, kCh3_t, kCh3_f, kAsg_e, kNx_e, kRet_e, kDrop_e, kSif_t, kSif_f, kSub1_e, kSub2_e, kSub3_e, kNxM_e, kFor_e, kBody_e, kIE_e, kSrc_e, kR1_e, kR2_e, kR2b_e, kZ1_e, kZ2_e, kEn_e, kMap_e, kMap2_e, kIt1_e, kIt2_t, kIt2_f, kSome_e, kLc_e, kLc2_e, kGc_e, par3_e, kAs2_e, kAs3_e, kAs4_e, kAs5_e, kAs6_e, fnOf2_e, fnV_e, kCV_e, kFld1_e, kFld2_e, kMk_e, kMk2_e, kMt_e, kMt2_e, kMt3_e, gFldE, setFE, metE, insAt_zero, insAt_succ, ob_s, ob_n, then_nx, then_rt, then_bk, then_ct, par2_e, turn_nx, turn_ct, turn_bk, turn_rt, runT_nil, runT_cons, mapT_nil, mapT_cons, finP_nx, finM_rt, finM_nx, addE, subE, negE, cmpE, ixT, truI, truB, at0, at1, at2, at3, List.getElem?_cons_zero, List.getElem?_cons_succ, List.set_cons_zero, List.set_cons_succ, List.length_cons, List.length_nil, Nat.reduceAdd, Nat.reduceLeDiff, if_true, if_false, reduceIte, reduceCtorEq, id_eq, Bool.not_true, Bool.not_false, Bool.false_eq_true, and_self, Int.reduceLE, Int.reduceLT, Int.reduceNeg, decide_true, decide_false, Option.toList_some, Option.toList_none, List.cons_append, List.nil_append, ixRf, tupRf, lenRf, listRf, isLstRf, appRf, revRf, setRf, itemsRf, itemsT, itemsL, zipT, zipRf, allRf, anyRf, sumRf, tupT, slRf, isiE, t2E, lenT, lstAt_zero, lstAt_succ, Option.isSome_some, Nat.reduceLT, Bool.or_true, Bool.or_false, Bool.true_or, Bool.false_or, gIsN, gNotN, D.isNon, wipeD, isBlE, notBlE, min1Rf, kZa_e, kZb_e, kZc_e, kZd_e, kZe_e, kZa4_e, kZb4_e, kLRa_e, kLRb_e, zip3T, zip4T, t4, m1, m2, sign_e, sg, q1, eqIb, beq_self_eq_true, show decide ((-1 : Int) < 0) = true from rfl]
          exact W.ret (.inr ⟨_, _, rfl, rfl, foldB_dead nxt⟩)
        · have q1 : decide ((if a - l < 0 then (-1 : Int) else if 0 < a - l then 1 else 0) < 0) = false := by
            rw [if_neg (by grind)]
            split <;> rfl
          by_cases c2 : hh < a
          · have a0 : axB l hh a ww = none := by unfold axB; rw [if_pos hz, if_pos (.inr c2)]
            rw [a0] at nxt
            have q2 : (if hh - a < 0 then (-1 : Int) else if 0 < hh - a then 1 else 0) = -1 := by rw [if_pos (by grind)]
            simp only [↓ev_V, ↓ev_C, ↓ev_O, ↓ev_U, ↓ev_Nil, ↓ev_Cons, ↓ev_L, ↓ev_If, ↓ev_tV, ↓ev_tTr, ↓ev_tAn, ↓ev_tOr, ↓ev_tNo, ↓ev_NotB, ↓ev_AnB, ↓ev_OrB, ↓ev_Tup, ↓ev_Lst, ↓ev_CP, ↓ev_ML, ↓ev_Sli, ↓ev_oN, ↓ev_oS, ↓ev_Ch, ↓ev_gN, ↓ev_gsNil, ↓ev_gsCons, ↓ev_gT, ↓ev_Seq, ↓ev_Asg, ↓ev_Par, ↓ev_Ret, ↓ev_Drop, ↓ev_sIf, ↓ev_Next, ↓ev_Brk, ↓ev_Cont, ↓ev_RetN, ↓ev_Sub, ↓ev_For, ↓ev_body, ↓ev_iE, ↓ev_iR1, ↓ev_iR2, ↓ev_iZ, ↓ev_iEn, ↓ev_item, ↓ev_Lc, ↓ev_Yes, ↓ev_Par3, ↓ev_As2, ↓ev_As4, ↓ev_CV, ↓ev_Fld, ↓ev_Mk, ↓ev_Mk0, ↓ev_Mt, ↓ev_ForM, ↓ev_bodyM, ↓ev_gTmT, ↓ev_gTmR, ↓ev_AsgM, ↓ev_Star, ↓ev_Dc, ↓ev_iRr, ↓ev_iRv, ↓ev_iZ3, ↓ev_iZ4, ↓ev_LR2, kForM_e, kAsgM_e, kSt1_e, kSt2_e, kSt3_e, seqT, seqRf, popRf, insRf, inE, notInE, kDc_e, kRr_e, kRv_e, revT, revL, vOf_e, kO_e, kO2_e, kU_e, kCons_e, kCons2_e, kL_e, kIf_t, kIf_f, kB_e, kTr_e, kTr2_e, kAn_t, kAn_f, kOr_t, kOr_f, kNo_e, kNotB_e, kAnB_t, kAnB_f, kOrB_t, kOrB_f, kTup_e, kLst_e, kCP_e, kD_e, kML_e, kML2_e, kS1_e, kS2_e, kS3_e, kI_e, kCh1_e, kCh2_e, kCh3_t, kCh3_f, kAsg_e, kNx_e, kRet_e, kDrop_e, kSif_t, kSif_f, kSub1_e, kSub2_e, kSub3_e, kNxM_e, kFor_e, kBody_e, kIE_e, kSrc_e, kR1_e, kR2_e, kR2b_e, kZ1_e, kZ2_e, kEn_e, kMap_e, kMap2_e, kIt1_e, kIt2_t, kIt2_f, kSome_e, kLc_e, kLc2_e, kGc_e, par3_e, kAs2_e, kAs3_e, kAs4_e, kAs5_e, kAs6_e, fnOf2_e, fnV_e, kCV_e, kFld1_e, kFld2_e, kMk_e, kMk2_e, kMt_e, kMt2_e, kMt3_e, gFldE, setFE, metE, insAt_zero, insAt_succ, ob_s, ob_n, then_nx, then_rt, then_bk, then_ct, par2_e, turn_nx, turn_ct, turn_bk, turn_rt, runT_nil, runT_cons, mapT_nil, mapT_cons, finP_nx, finM_rt, finM_nx, addE, subE, negE, cmpE, ixT, truI, truB, at0, at1, at2, at3, List.getElem?_cons_zero, List.getElem?_cons_succ, List.set_cons_zero, List.set_cons_succ, List.length_cons, List.length_nil, Nat.reduceAdd, Nat.reduceLeDiff, if_true, if_false, reduceIte, reduceCtorEq, id_eq, Bool.not_true, Bool.not_false, Bool.false_eq_true, and_self, Int.reduceLE, Int.reduceLT, Int.reduceNeg, decide_true, decide_false, Option.toList_some, Option.toList_none, List.cons_append, List.nil_append, ixRf, tupRf, lenRf, listRf, isLstRf, appRf, revRf, setRf, itemsRf, itemsT, itemsL, zipT, zipRf, allRf, anyRf, sumRf, tupT, slRf, isiE, t2E, lenT, lstAt_zero, lstAt_succ, Option.isSome_some, Nat.reduceLT, Bool.or_true, Bool.or_false, Bool.true_or, Bool.false_or, gIsN, gNotN, D.isNon, wipeD, isBlE, notBlE, min1Rf, kZa_e, kZb_e, kZc_e, kZd_e, kZe_e, kZa4_e, kZb4_e, kLRa_e, kLRb_e, zip3T, zip4T, t4, m1, m2, sign_e, sg, q1, q2, eqIb, beq_self_eq_true, show decide ((-1 : Int) < 0) = true from rfl]
            exact W.ret (.inr ⟨_, _, rfl, rfl, foldB_dead nxt⟩)
          · have a0 : axB l hh a ww = some none := by unfold axB; rw [if_pos hz, if_neg (by rintro (c | c); exact c1 c; exact c2 c)]
            have q2 : decide ((if hh - a < 0 then (-1 : Int) else if 0 < hh - a then 1 else 0) < 0) = false := by
              rw [if_neg (by grind)]
              split <;> rfl
            rw [a0] at nxt
            simp only [↓ev_V, ↓ev_C, ↓ev_O, ↓ev_U, ↓ev_Nil, ↓ev_Cons, ↓ev_L, ↓ev_If, ↓ev_tV, ↓ev_tTr, ↓ev_tAn, ↓ev_tOr, ↓ev_tNo, ↓ev_NotB, ↓ev_AnB, ↓ev_OrB, ↓ev_Tup, ↓ev_Lst, ↓ev_CP, ↓ev_ML, ↓ev_Sli, ↓ev_oN, ↓ev_oS, ↓ev_Ch, ↓ev_gN, ↓ev_gsNil, ↓ev_gsCons, ↓ev_gT, ↓ev_Seq, ↓ev_Asg, ↓ev_Par, ↓ev_Ret, ↓ev_Drop, ↓ev_sIf, ↓ev_Next, ↓ev_Brk, ↓ev_Cont, ↓ev_RetN, ↓ev_Sub, ↓ev_For, ↓ev_body, ↓ev_iE, ↓ev_iR1, ↓ev_iR2, ↓ev_iZ, ↓ev_iEn, ↓ev_item, ↓ev_Lc, ↓ev_Yes, ↓ev_Par3, ↓ev_As2, ↓ev_As4, ↓ev_CV, ↓ev_Fld, ↓ev_Mk, ↓ev_Mk0, ↓ev_Mt, ↓ev_ForM, ↓ev_bodyM, ↓ev_gTmT, ↓ev_gTmR, ↓ev_AsgM, ↓ev_Star, ↓ev_Dc, ↓ev_iRr, ↓ev_iRv, ↓ev_iZ3, ↓ev_iZ4, ↓ev_LR2, kForM_e, kAsgM_e, kSt1_e, kSt2_e, kSt3_e, seqT, seqRf, popRf, insRf, inE, notInE, kDc_e, kRr_e, kRv_e, revT, revL, vOf_e, kO_e, kO2_e, kU_e, kCons_e, kCons2_e, kL_e, kIf_t, kIf_f, kB_e, kTr_e, kTr2_e, kAn_t, kAn_f, kOr_t, kOr_f, kNo_e, kNotB_e, kAnB_t, kAnB_f, kOrB_t, kOrB_f, kTup_e, kLst_e, kCP_e, kD_e, kML_e, kML2_e, kS1_e, kS2_e, kS3_e, kI_e, kCh1_e, kCh2_e, kCh3_t, kCh3_f, kAsg_e, kNx_e, kRet_e, kDrop_e, kSif_t, kSif_f, kSub1_e, kSub2_e, kSub3_e, kNxM_e, kFor_e, kBody_e, kIE_e, kSrc_e, kR1_e, kR2_e, kR2b_e, kZ1_e, kZ2_e, kEn_e, kMap_e, kMap2_e, kIt1_e, kIt2_t, kIt2_f, kSome_e, kLc_e, kLc2_e, kGc_e, par3_e, kAs2_e, kAs3_e, kAs4_e, kAs5_e, kAs6_e, fnOf2_e, fnV_e, kCV_e, kFld1_e, kFld2_e, kMk_e, kMk2_e, kMt_e, kMt2_e, kMt3_e, gFldE, setFE, metE, insAt_zero, insAt_succ, ob_s, ob_n, then_nx, then_rt, then_bk, then_ct, par2_e, turn_nx, turn_ct, turn_bk, turn_rt, runT_nil, runT_cons, mapT_nil, mapT_cons, finP_nx, finM_rt, finM_nx, addE, subE, negE, cmpE, ixT, truI, truB, at0, at1, at2, at3, List.getElem?_cons_zero, List.getElem?_cons_succ, List.set_cons_zero, List.set_cons_succ, List.length_cons, List.length_nil, Nat.reduceAdd, Nat.reduceLeDiff, if_true, if_false, reduceIte, reduceCtorEq, id_eq, Bool.not_true, Bool.not_false, Bool.false_eq_true, and_self, Int.reduceLE, Int.reduceLT, Int.reduceNeg, decide_true, decide_false, Option.toList_some, Option.toList_none, List.cons_append, List.nil_append, ixRf, tupRf, lenRf, listRf, isLstRf, appRf, revRf, setRf, itemsRf, itemsT, itemsL, zipT, zipRf, allRf, anyRf, sumRf, tupT, slRf, isiE, t2E, lenT, lstAt_zero, lstAt_succ, Option.isSome_some, Nat.reduceLT, Bool.or_true, Bool.or_false, Bool.true_or, Bool.false_or, gIsN, gNotN, D.isNon, wipeD, isBlE, notBlE, min1Rf, kZa_e, kZb_e, kZc_e, kZd_e, kZe_e, kZa4_e, kZb4_e, kLRa_e, kLRb_e, zip3T, zip4T, t4, m1, m2, sign_e, sg, q1, q2, eqIb, beq_self_eq_true]
            exact W.ret (.inl ⟨_, _, .inr rfl, b, es, _, _, _, _, _, _, _, C, sz, by omega, nxt, rfl, rfl⟩)
      · have sg : ((if ww < 0 then (-1 : Int) else if 0 < ww then 1 else 0) == 0) = false := by
          by_cases c : ww < 0
          · rw [if_pos c]; rfl
          · rw [if_neg c, if_pos (by grind)]; rfl
        obtain ⟨q, hq, eq⟩ := side_e (s1.mono (show m ≤ m + n by omega)) (s2.mono (show n ≤ m + n by omega)) s3 s4 (by omega) hz
        obtain ⟨z1, z2⟩ := axB_sz (s1.mono (show m ≤ m + n by omega)) (s2.mono (show n ≤ m + n by omega)) s3 s4 q hq
        have sz' := stB_sz (s := (b, es)) (s' := (if b < q.1 then q.1 else b, es ++ [q.2])) sz (a := some (some q)) (fun p hp => by cases hp; exact ⟨z1, z2⟩) rfl
        have ut := ut_e (M := .lst (es.map eF) :: (C ++ [.lst [eF b, eF q.1]])) (r := C.length + 1) (x := b) (l := [q.1]) (by simp) 1 (show (m + n + k + 1 + o) + (m + n + k + 1 + o) ≤ 9000 by omega) (fun r hr => by
          simp only [List.mem_cons, List.not_mem_nil, or_false] at hr
          rcases hr with rfl | rfl
          · exact sz.1
          · exact z1) (by decide)
        rw [show [q.1].foldl (extS 1) b = if b < q.1 then q.1 else b from extS_up b q.1] at ut
        rw [hq] at nxt
        have t2 : ∀ ρ, gT 2 (gsCons (gN 8) (gsCons (gN 9) gsNil)) (.tup [eF q.1, eF q.2]) ρ = some ((ρ.set 8 (some (eF q.1))).set 9 (some (eF q.2))) := fun _ => rfl
        have es1 : (es.map eF).length < 100000 := by rw [List.length_map]; omega
        have mp : es.map eF ++ [eF q.2] = (es ++ [q.2]).map eF := by simp
        simp only [↓ev_V, ↓ev_C, ↓ev_O, ↓ev_U, ↓ev_Nil, ↓ev_Cons, ↓ev_L, ↓ev_If, ↓ev_tV, ↓ev_tTr, ↓ev_tAn, ↓ev_tOr, ↓ev_tNo, ↓ev_NotB, ↓ev_AnB, ↓ev_OrB, ↓ev_Tup, ↓ev_Lst, ↓ev_CP, ↓ev_ML, ↓ev_Sli, ↓ev_oN, ↓ev_oS, ↓ev_Ch, ↓ev_gN, ↓ev_gsNil, ↓ev_gsCons, ↓ev_gT, ↓ev_Seq, ↓ev_Asg, ↓ev_Par, ↓ev_Ret, ↓ev_Drop, ↓ev_sIf, ↓ev_Next, ↓ev_Brk, ↓ev_Cont, ↓ev_RetN, ↓ev_Sub, ↓ev_For, ↓ev_body, ↓ev_iE, ↓ev_iR1, ↓ev_iR2, ↓ev_iZ, ↓ev_iEn, ↓ev_item, ↓ev_Lc, ↓ev_Yes, ↓ev_Par3, ↓ev_As2, ↓ev_As4, ↓ev_CV, ↓ev_Fld, ↓ev_Mk, ↓ev_Mk0, ↓ev_Mt, ↓ev_ForM, ↓ev_bodyM, ↓ev_gTmT, ↓ev_gTmR, ↓ev_AsgM, ↓ev_Star, ↓ev_Dc, ↓ev_iRr, ↓ev_iRv, ↓ev_iZ3, ↓ev_iZ4, ↓ev_LR2, kForM_e, kAsgM_e, kSt1_e, kSt2_e, kSt3_e, seqT, seqRf, popRf, insRf, inE, notInE, kDc_e, kRr_e, kRv_e, revT, revL, vOf_e, kO_e, kO2_e, kU_e, kCons_e, kCons2_e, kL_e, kIf_t, kIf_f, kB_e, kTr_e, kTr2_e, kAn_t, kAn_f, kOr_t, kOr_f, kNo_e, kNotB_e, kAnB_t, kAnB_f, kOrB_t, kOrB_f, kTup_e, kLst_e, kCP_e, kD_e, kML_e, kML2_e, kS1_e, kS2_e, kS3_e, kI_e, kCh1_e, kCh2_e, kCh3_t, kCh3_f, kAsg_e, kNx_e, kRet_e, kDrop_e, kSif_t, kSif_f, kSub1_e, kSub2_e, kSub3_e, kNxM_e, kFor_e, kBody_e, kIE_e, kSrc_e, kR1_e, kR2_e, kR2b_e, kZ1_e, kZ2_e, kEn_e, kMap_e, kMap2_e, kIt1_e, kIt2_t, kIt2_f, kSome_e, kLc_e, kLc2_e, kGc_e, par3_e, kAs2_e, kAs3_e, kAs4_e, kAs5_e, kAs6_e, fnOf2_e, fnV_e, kCV_e, kFld1_e, kFld2_e, kMk_e, kMk2_e, kMt_e, kMt2_e, kMt3_e, gFldE, setFE, metE, insAt_zero, insAt_succ, ob_s, ob_n, then_nx, then_rt, then_bk, then_ct, par2_e, turn_nx, turn_ct, turn_bk, turn_rt, runT_nil, runT_cons, mapT_nil, mapT_cons, finP_nx, finM_rt, finM_nx, addE, subE, negE, cmpE, ixT, truI, truB, at0, at1, at2, at3, List.getElem?_cons_zero, List.getElem?_cons_succ, List.set_cons_zero, List.set_cons_succ, List.length_cons, List.length_nil, Nat.reduceAdd, Nat.reduceLeDiff, if_true, if_false, reduceIte, reduceCtorEq, id_eq, Bool.not_true, Bool.not_false, Bool.false_eq_true, and_self, Int.reduceLE, Int.reduceLT, Int.reduceNeg, decide_true, decide_false, Option.toList_some, Option.toList_none, List.cons_append, List.nil_append, ixRf, tupRf, lenRf, listRf, isLstRf, appRf, revRf, setRf, itemsRf, itemsT, itemsL, zipT, zipRf, allRf, anyRf, sumRf, tupT, slRf, isiE, t2E, lenT, lstAt_zero, lstAt_succ, Option.isSome_some, Nat.reduceLT, Bool.or_true, Bool.or_false, Bool.true_or, Bool.false_or, gIsN, gNotN, D.isNon, wipeD, isBlE, notBlE, min1Rf, kZa_e, kZb_e, kZc_e, kZd_e, kZe_e, kZa4_e, kZb4_e, kLRa_e, kLRb_e, zip3T, zip4T, t4, t2, sign_e, sg, eqIb, eq, ut, es1, mp]
        exact W.ret (.inl ⟨_, _, .inl rfl, _, es ++ [q.2], _, _, _, _, _, _, _, _, sz', by simp; omega, nxt, rfl, rfl⟩)
    · rintro ρ M ⟨b, es, x4, x5, x6, x7, x8, x9, x10, C, sz, el, hf, rfl, rfl⟩
      rw [ln] at hf
      replace hf : foldB (axsB lo hi p w) = some (b, es) := hf
      have hes := foldB_end ne hf
      cases es with
      | nil => exact absurd rfl hes
      | cons x l =>
        have ut := ut_e (M := .lst ((x :: l).map eF) :: C) (r := 0) (x := x) (l := l) rfl (-1) (show (m + n + k + 1 + o) + (m + n + k + 1 + o) ≤ 9000 by omega) (fun r hr => sz.2 r hr) (by decide)
        have se : Rb (m + n + k + 1 + o) (l.foldl (extS (-1)) x) := fold_rb (sz.2 x List.mem_cons_self) fun r hr => sz.2 r (List.mem_cons_of_mem _ hr)
        have m3 := minus_e se sz.1 (by omega)
        have out : outB lo hi p w = if l.foldl (extS (-1)) x < b then none else some (b, l.foldl (extS (-1)) x) := by
          unfold outB
          rw [hf]
          rfl
        rw [out]
        generalize l.foldl (extS (-1)) x = e at *
        by_cases c : e < b
        · have sg : (if e - b < 0 then (-1 : Int) else if 0 < e - b then 1 else 0) = -1 := by rw [if_pos (by grind)]
          simp only [↓ev_V, ↓ev_C, ↓ev_O, ↓ev_U, ↓ev_Nil, ↓ev_Cons, ↓ev_L, ↓ev_If, ↓ev_tV, ↓ev_tTr, ↓ev_tAn, ↓ev_tOr, ↓ev_tNo, ↓ev_NotB, ↓ev_AnB, ↓ev_OrB, ↓ev_Tup, ↓ev_Lst, ↓ev_CP, ↓ev_ML, ↓ev_Sli, ↓ev_oN, ↓ev_oS, ↓ev_Ch, ↓ev_gN, ↓ev_gsNil, ↓ev_gsCons, ↓ev_gT, ↓ev_Seq, ↓ev_Asg, ↓ev_Par, ↓ev_Ret, ↓ev_Drop, ↓ev_sIf, ↓ev_Next, ↓ev_Brk, ↓ev_Cont, ↓ev_RetN, ↓ev_Sub, ↓ev_For, ↓ev_body, ↓ev_iE, ↓ev_iR1, ↓ev_iR2, ↓ev_iZ, ↓ev_iEn, ↓ev_item, ↓ev_Lc, ↓ev_Yes, ↓ev_Par3, ↓ev_As2, ↓ev_As4, ↓ev_CV, ↓ev_Fld, ↓ev_Mk, ↓ev_Mk0, ↓ev_Mt, ↓ev_ForM, ↓ev_bodyM, ↓ev_gTmT, ↓ev_gTmR, ↓ev_AsgM, ↓ev_Star, ↓ev_Dc, ↓ev_iRr, ↓ev_iRv, ↓ev_iZ3, ↓ev_iZ4, ↓ev_LR2, kForM_e, kAsgM_e, kSt1_e, kSt2_e, kSt3_e, seqT, seqRf, popRf, insRf, inE, notInE, kDc_e, kRr_e, kRv_e, revT, revL, vOf_e, kO_e, kO2_e, kU_e, kCons_e, kCons2_e, kL_e, kIf_t, kIf_f, kB_e, kTr_e, kTr2_e, kAn_t, kAn_f, kOr_t, kOr_f, kNo_e, kNotB_e, kAnB_t, kAnB_f, kOrB_t, kOrB_f, kTup_e, kLst_e, kCP_e, kD_e, kML_e, kML2_e, kS1_e, kS2_e, kS3_e, kI_e, kCh1_e, kCh2_e, kCh3_t, kCh3_f, kAsg_e, kNx_e, kRet_e, kDrop_e, kSif_t, kSif_f, kSub1_e, kSub2_e, kSub3_e, kNxM_e, kFor_e, kBody_e, kIE_e, kSrc_e, kR1_e, kR2_e, kR2b_e, kZ1_e, kZ2_e, kEn_e, kMap_e, kMap2_e, kIt1_e, kIt2_t, kIt2_f, kSome_e, kLc_e, kLc2_e, kGc_e, par3_e, kAs2_e, kAs3_e, kAs4_e, kAs5_e, kAs6_e, fnOf2_e, fnV_e, kCV_e, kFld1_e, kFld2_e, kMk_e, kMk2_e, kMt_e, kMt2_e, kMt3_e, gFldE, setFE, metE, insAt_zero, insAt_succ, ob_s, ob_n, then_nx, then_rt, then_bk, then_ct, par2_e, turn_nx, turn_ct, turn_bk, turn_rt, runT_nil, runT_cons, mapT_nil, mapT_cons, finP_nx, finM_rt, finM_nx, addE, subE, negE, cmpE, ixT, truI, truB, at0, at1, at2, at3, List.getElem?_cons_zero, List.getElem?_cons_succ, List.set_cons_zero, List.set_cons_succ, List.length_cons, List.length_nil, Nat.reduceAdd, Nat.reduceLeDiff, if_true, if_false, reduceIte, reduceCtorEq, id_eq, Bool.not_true, Bool.not_false, Bool.false_eq_true, and_self, Int.reduceLE, Int.reduceLT, Int.reduceNeg, decide_true, decide_false, Option.toList_some, Option.toList_none, List.cons_append, List.nil_append, ixRf, tupRf, lenRf, listRf, isLstRf, appRf, revRf, setRf, itemsRf, itemsT, itemsL, zipT, zipRf, allRf, anyRf, sumRf, tupT, slRf, isiE, t2E, lenT, lstAt_zero, lstAt_succ, Option.isSome_some, Nat.reduceLT, Bool.or_true, Bool.or_false, Bool.true_or, Bool.false_or, gIsN, gNotN, D.isNon, wipeD, isBlE, notBlE, min1Rf, kZa_e, kZb_e, kZc_e, kZd_e, kZe_e, kZa4_e, kZb4_e, kLRa_e, kLRb_e, zip3T, zip4T, ut, m3, sign_e, sg, if_pos c, show decide ((-1 : Int) < 0) = true from rfl]
          exact W.ret ⟨_, rfl⟩
        · have sg : decide ((if e - b < 0 then (-1 : Int) else if 0 < e - b then 1 else 0) < 0) = false := by
            rw [if_neg (by grind)]
            split <;> rfl
          simp only [↓ev_V, ↓ev_C, ↓ev_O, ↓ev_U, ↓ev_Nil, ↓ev_Cons, ↓ev_L, ↓ev_If, ↓ev_tV, ↓ev_tTr, ↓ev_tAn, ↓ev_tOr, ↓ev_tNo, ↓ev_NotB, ↓ev_AnB, ↓ev_OrB, ↓ev_Tup, ↓ev_Lst, ↓ev_CP, ↓ev_ML, ↓ev_Sli, ↓ev_oN, ↓ev_oS, ↓ev_Ch, ↓ev_gN, ↓ev_gsNil, ↓ev_gsCons, ↓ev_gT, ↓ev_Seq, ↓ev_Asg, ↓ev_Par, ↓ev_Ret, ↓ev_Drop, ↓ev_sIf, ↓ev_Next, ↓ev_Brk, ↓ev_Cont, ↓ev_RetN, ↓ev_Sub, ↓ev_For, ↓ev_body, ↓ev_iE, ↓ev_iR1, ↓ev_iR2, ↓ev_iZ, ↓ev_iEn, ↓ev_item, ↓ev_Lc, ↓ev_Yes, ↓ev_Par3, ↓ev_As2, ↓ev_As4, ↓ev_CV, ↓ev_Fld, ↓ev_Mk, ↓ev_Mk0, ↓ev_Mt, ↓ev_ForM, ↓ev_bodyM, ↓ev_gTmT, ↓ev_gTmR, ↓ev_AsgM, ↓ev_Star, ↓ev_Dc, ↓ev_iRr, ↓ev_iRv, ↓ev_iZ3, ↓ev_iZ4, ↓ev_LR2, kForM_e, kAsgM_e, kSt1_e, kSt2_e, kSt3_e, seqT, seqRf, popRf, insRf, inE, notInE, kDc_e, kRr_e, kRv_e, revT, revL, vOf_e, kO_e, kO2_e, kU_e, kCons_e, kCons2_e, kL_e, kIf_t, kIf_f, kB_e, kTr_e, kTr2_e, kAn_t, kAn_f, kOr_t, kOr_f, kNo_e, kNotB_e, kAnB_t, kAnB_f, kOrB_t, kOrB_f, kTup_e, kLst_e, kCP_e, kD_e, kML_e, kML2_e, kS1_e, kS2_e, kS3_e, kI_e, kCh1_e, kCh2_e, kCh3_t, kCh3_f, kAsg_e, kNx_e, kRet_e, kDrop_e, kSif_t, kSif_f, kSub1_e, kSub2_e, kSub3_e, kNxM_e, kFor_e, kBody_e, kIE_e, kSrc_e, kR1_e, kR2_e, kR2b_e, kZ1_e, kZ2_e, kEn_e, kMap_e, kMap2_e, kIt1_e, kIt2_t, kIt2_f, kSome_e, kLc_e, kLc2_e, kGc_e, par3_e, kAs2_e, kAs3_e, kAs4_e, kAs5_e, kAs6_e, fnOf2_e, fnV_e, kCV_e, kFld1_e, kFld2_e, kMk_e, kMk2_e, kMt_e, kMt2_e, kMt3_e, gFldE, setFE, metE, insAt_zero, insAt_succ, ob_s, ob_n, then_nx, then_rt, then_bk, then_ct, par2_e, turn_nx, turn_ct, turn_bk, turn_rt, runT_nil, runT_cons, mapT_nil, mapT_cons, finP_nx, finM_rt, finM_nx, addE, subE, negE, cmpE, ixT, truI, truB, at0, at1, at2, at3, List.getElem?_cons_zero, List.getElem?_cons_succ, List.set_cons_zero, List.set_cons_succ, List.length_cons, List.length_nil, Nat.reduceAdd, Nat.reduceLeDiff, if_true, if_false, reduceIte, reduceCtorEq, id_eq, Bool.not_true, Bool.not_false, Bool.false_eq_true, and_self, Int.reduceLE, Int.reduceLT, Int.reduceNeg, decide_true, decide_false, Option.toList_some, Option.toList_none, List.cons_append, List.nil_append, ixRf, tupRf, lenRf, listRf, isLstRf, appRf, revRf, setRf, itemsRf, itemsT, itemsL, zipT, zipRf, allRf, anyRf, sumRf, tupT, slRf, isiE, t2E, lenT, lstAt_zero, lstAt_succ, Option.isSome_some, Nat.reduceLT, Bool.or_true, Bool.or_false, Bool.true_or, Bool.false_or, gIsN, gNotN, D.isNon, wipeD, isBlE, notBlE, min1Rf, kZa_e, kZb_e, kZc_e, kZd_e, kZe_e, kZa4_e, kZb4_e, kLRa_e, kLRb_e, zip3T, zip4T, ut, m3, sign_e, sg, if_neg c]
          exact W.ret ⟨_, rfl⟩
    · rintro v M ⟨rfl, hn⟩
      have out : outB lo hi p w = none := by
        unfold outB
        rw [hn]
      rw [out]
      simp only [↓ev_V, ↓ev_C, ↓ev_O, ↓ev_U, ↓ev_Nil, ↓ev_Cons, ↓ev_L, ↓ev_If, ↓ev_tV, ↓ev_tTr, ↓ev_tAn, ↓ev_tOr, ↓ev_tNo, ↓ev_NotB, ↓ev_AnB, ↓ev_OrB, ↓ev_Tup, ↓ev_Lst, ↓ev_CP, ↓ev_ML, ↓ev_Sli, ↓ev_oN, ↓ev_oS, ↓ev_Ch, ↓ev_gN, ↓ev_gsNil, ↓ev_gsCons, ↓ev_gT, ↓ev_Seq, ↓ev_Asg, ↓ev_Par, ↓ev_Ret, ↓ev_Drop, ↓ev_sIf, ↓ev_Next, ↓ev_Brk, ↓ev_Cont, ↓ev_RetN, ↓ev_Sub, ↓ev_For, ↓ev_body, ↓ev_iE, ↓ev_iR1, ↓ev_iR2, ↓ev_iZ, ↓ev_iEn, ↓ev_item, ↓ev_Lc, ↓ev_Yes, ↓ev_Par3, ↓ev_As2, ↓ev_As4, ↓ev_CV, ↓ev_Fld, ↓ev_Mk, ↓ev_Mk0, ↓ev_Mt, ↓ev_ForM, ↓ev_bodyM, ↓ev_gTmT, ↓ev_gTmR, ↓ev_AsgM, ↓ev_Star, ↓ev_Dc, ↓ev_iRr, ↓ev_iRv, ↓ev_iZ3, ↓ev_iZ4, ↓ev_LR2, kForM_e, kAsgM_e, kSt1_e, kSt2_e, kSt3_e, seqT, seqRf, popRf, insRf, inE, notInE, kDc_e, kRr_e, kRv_e, revT, revL, vOf_e, kO_e, kO2_e, kU_e, kCons_e, kCons2_e, kL_e, kIf_t, kIf_f, kB_e, kTr_e, kTr2_e, kAn_t, kAn_f, kOr_t, kOr_f, kNo_e, kNotB_e, kAnB_t, kAnB_f, kOrB_t, kOrB_f, kTup_e, kLst_e, kCP_e, kD_e, kML_e, kML2_e, kS1_e, kS2_e, kS3_e, kI_e, kCh1_e, kCh2_e, kCh3_t, kCh3_f, kAsg_e, kNx_e, kRet_e, kDrop_e, kSif_t, kSif_f, kSub1_e, kSub2_e, kSub3_e, kNxM_e, kFor_e, kBody_e, kIE_e, kSrc_e, kR1_e, kR2_e, kR2b_e, kZ1_e, kZ2_e, kEn_e, kMap_e, kMap2_e, kIt1_e, kIt2_t, kIt2_f, kSome_e, kLc_e, kLc2_e, kGc_e, par3_e, kAs2_e, kAs3_e, kAs4_e, kAs5_e, kAs6_e, fnOf2_e, fnV_e, kCV_e, kFld1_e, kFld2_e, kMk_e, kMk2_e, kMt_e, kMt2_e, kMt3_e, gFldE, setFE, metE, insAt_zero, insAt_succ, ob_s, ob_n, then_nx, then_rt, then_bk, then_ct, par2_e, turn_nx, turn_ct, turn_bk, turn_rt, runT_nil, runT_cons, mapT_nil, mapT_cons, finP_nx, finM_rt, finM_nx, addE, subE, negE, cmpE, ixT, truI, truB, at0, at1, at2, at3, List.getElem?_cons_zero, List.getElem?_cons_succ, List.set_cons_zero, List.set_cons_succ, List.length_cons, List.length_nil, Nat.reduceAdd, Nat.reduceLeDiff, if_true, if_false, reduceIte, reduceCtorEq, id_eq, Bool.not_true, Bool.not_false, Bool.false_eq_true, and_self, Int.reduceLE, Int.reduceLT, Int.reduceNeg, decide_true, decide_false, Option.toList_some, Option.toList_none, List.cons_append, List.nil_append, ixRf, tupRf, lenRf, listRf, isLstRf, appRf, revRf, setRf, itemsRf, itemsT, itemsL, zipT, zipRf, allRf, anyRf, sumRf, tupT, slRf, isiE, t2E, lenT, lstAt_zero, lstAt_succ, Option.isSome_some, Nat.reduceLT, Bool.or_true, Bool.or_false, Bool.true_or, Bool.false_or, gIsN, gNotN, D.isNon, wipeD, isBlE, notBlE, min1Rf, kZa_e, kZb_e, kZc_e, kZd_e, kZe_e, kZa4_e, kZb4_e, kLRa_e, kLRb_e, zip3T, zip4T]
      exact W.ret ⟨M, rfl⟩
  rw [e_box_stretch _ _ lo0]
  obtain ⟨y, e, M, rfl⟩ := fin
  rw [e, ob_s]
  exact finP_rt _ _ (by cases outB lo hi p w <;> rfl)

/-! ### the texts of data are of small characters -/
def SmallS (x : Str) : Prop := ∀ c ∈ x.cps.toList, c < 0x110000
theorem SmallS.ok {x : Str} (h : SmallS x) : PyData.canLay0 (.str x) = true := by
  simp only [PyData.canLay0]
  show x.cps.all (fun c => decide (c < 0x110000)) = true
  rw [Array.all_eq_true']
  intro c hc
  exact decide_eq_true (h c (by simpa using hc))
theorem SmallS.app {a b : Str} (ha : SmallS a) (hb : SmallS b) : SmallS (a ++ b) := fun c hc => by
  rcases mem_cps_append.mp hc with h | h
  · exact ha c h
  · exact hb c h
theorem small_int (i : Int) : SmallS (PyData.int i).shown := fun c hc => by
  refine Decidable.by_contra fun z => ?_
  exact shown_int_free' (k := c) ⟨by omega, by omega⟩ i hc
theorem small_all : ∀ (xs : List PyData), (∀ x ∈ xs, SmallS x.shown) → ∀ t ∈ PyData.shownAll xs, SmallS t
  | [], _, _, h => by simp [PyData.shownAll] at h
  | x :: xs, hx, t, h => by
    simp only [PyData.shownAll, List.mem_cons] at h
    rcases h with rfl | h
    · exact hx x List.mem_cons_self
    · exact small_all xs (fun y hy => hx y (List.mem_cons_of_mem _ hy)) t h
theorem small_str (s : String) (h : ∀ c ∈ s.toList.map Char.toNat, c < 0x110000) : SmallS (Str.ofString s) := fun c hc => h c (by rw [← signs_ofString]; exact hc)
theorem small_tuple (xs : List PyData) (h : ∀ x ∈ xs, SmallS x.shown) : SmallS (PyData.tuple xs).shown := by
  rw [PyData.shown_tuple]
  refine SmallS.app (SmallS.app (small_str "(" (by decide)) fun c hc => ?_) ?_
  · rcases (mem_join _ c _).mp hc with ⟨t, ht, hc⟩ | ⟨_, hc⟩
    · exact small_all xs h t ht c hc
    · exact small_str ", " (by decide) c hc
  · split
    · exact small_str ",)" (by decide)
    · exact small_str ")" (by decide)
/- a pair of fractions, as a law shows it -/
def pyF (q : Rat) : PyData := .tuple [.int q.num, .int (q.den : Int)]
theorem small_F (q : Rat) : SmallS (pyF q).shown := small_tuple _ fun x hx => by
  simp only [List.mem_cons, List.not_mem_nil, or_false] at hx
  rcases hx with rfl | rfl <;> exact small_int _
theorem small_FF (q r : Rat) : SmallS (PyData.tuple [pyF q, pyF r]).shown := small_tuple _ fun x hx => by
  simp only [List.mem_cons, List.not_mem_nil, or_false] at hx
  rcases hx with rfl | rfl <;> exact small_F _
theorem log_bt {n : Nat} {i : Int} (h : Bt n i) (hn : n ≤ 1900) : i.natAbs.log2 < 1900 := by
  by_cases z : i.natAbs = 0
  · rw [z]
    decide
  · have : i.natAbs < 2 ^ 1900 := Nat.lt_of_lt_of_le h (Nat.pow_le_pow_right (by decide) hn)
    exact (Nat.log2_lt z).mpr this
theorem repr_FF {m n : Nat} {q r : Rat} (hq : Rb m q) (hr : Rb n r) (hm : m ≤ 1900) (hn : n ≤ 1900) (M : Mem) : bRepr [.tup [eF q, eF r]] M = some (.str (PyData.tuple [pyF q, pyF r]).shown, M) := by
  have a1 := log_bt hq.1 hm
  have a2 := log_bt hq.2 hm
  have a3 := log_bt hr.1 hn
  have a4 := log_bt hr.2 hn
  have a2' : q.den.log2 < 1900 := by simpa using a2
  have a4' : r.den.log2 < 1900 := by simpa using a4
  have up : ∀ {k : Nat}, k < 1900 → k < 1920 := fun h => by omega
  have sh : (PyData.tuple [pyF q, pyF r]).showable = true := by
    simp [PyData.showable, PyData.showableAll, pyF, up a1, up a2', up a3, up a4']
  have hd : (PyData.tuple [pyF q, pyF r]).hasDict = false := by
    simp [PyData.hasDict, PyData.hasDictAll, pyF]
  have dp : (PyData.tuple [pyF q, pyF r]).depth ≤ 60 := by
    simp [PyData.depth, PyData.depthAll, pyF]
  have sl : (PyData.tuple [pyF q, pyF r]).shown.length ≤ sizeLine := by
    have e : ∀ i : Int, i.natAbs.log2 < 1900 → (PyData.int i).shown.length ≤ 1921 := fun i h => by
      rw [PyData.shown_int]
      exact int_text_len_1921 (up h)
    have l := PyData.shown_le 1921 (by decide) (PyData.tuple [pyF q, pyF r]) (by
      simp [PyData.leavesShort, PyData.leavesShortAll, pyF, e _ a1, e _ a2, e _ a3, e _ a4])
    have w : (PyData.tuple [pyF q, pyF r]).weight ≤ 8000 := by
      simp [PyData.weight, PyData.weightAll, pyF]
      repeat' split
      all_goals omega
    have : 1923 * 8000 + 1921 ≤ sizeLine := by decide
    omega
  have tp : toPy M (.tup [eF q, eF r]) = some (PyData.tuple [pyF q, pyF r]) := rfl
  simp only [bRepr, tp, Option.bind_some]
  rw [if_pos ⟨sh, hd, dp, sl⟩]

/-! ### k57: the law's own look, and the law -/
theorem lz57 (M X : Mem) (i : Nat) : lstAt (M ++ X) (M.length + i) = lstAt X i := by
  unfold lstAt
  rw [List.getElem?_append_right (by omega), Nat.add_sub_cancel_left]
theorem lz570 (M X : Mem) : lstAt (M ++ X) M.length = lstAt X 0 := lz57 M X 0
theorem rev57 (l : Nat) (M : Mem) : gRev (.rf l) M = ob (lstAt M l) fun ds => some (.rf M.length, M ++ [.lst ds.reverse]) := by
  simp only [gRev, lstAt, ob]
  cases M[l]? with
  | none => rfl
  | some c => cases c <;> rfl
theorem num_lt (q : Rat) : q.num < 0 ↔ q < 0 := by
  rw [Rat.lt_iff]
  simp
theorem num_gt (q : Rat) : 0 < q.num ↔ 0 < q := by
  rw [Rat.lt_iff]
  simp
def eMn : Option Rat → D
  | none => .non
  | some e => eF e
theorem ixs57 (lo hi p w : P3) {j : Nat} (h : j < 3) : ∃ l hh a ww, (∀ M, gIx (eP lo) (.int (0 + (j : Nat))) M = some (eF l, M)) ∧ (∀ M, gIx (eP hi) (.int (0 + (j : Nat))) M = some (eF hh, M)) ∧ (∀ M, gIx (eP p) (.int (0 + (j : Nat))) M = some (eF a, M)) ∧ (∀ M, gIx (eP w) (.int (0 + (j : Nat))) M = some (eF ww, M)) ∧ (axsB lo hi p w)[j]? = some (axB l hh a ww) ∧ ∀ m n k o : Nat, lo.B m → hi.B n → p.B k → w.B o → Rb m l ∧ Rb n hh ∧ Rb k a ∧ Rb o ww := by
  match j, h with
  | 0, _ => exact ⟨_, _, _, _, fun _ => rfl, fun _ => rfl, fun _ => rfl, fun _ => rfl, rfl, fun _ _ _ _ h1 h2 h3 h4 => ⟨h1.1, h2.1, h3.1, h4.1⟩⟩
  | 1, _ => exact ⟨_, _, _, _, fun _ => rfl, fun _ => rfl, fun _ => rfl, fun _ => rfl, rfl, fun _ _ _ _ h1 h2 h3 h4 => ⟨h1.2.1, h2.2.1, h3.2.1, h4.2.1⟩⟩
  | 2, _ => exact ⟨_, _, _, _, fun _ => rfl, fun _ => rfl, fun _ => rfl, fun _ => rfl, rfl, fun _ _ _ _ h1 h2 h3 h4 => ⟨h1.2.2, h2.2.2, h3.2.2, h4.2.2⟩⟩
  | n + 3, h => omega
theorem mnB_rb {n : Nat} {es : List Rat} {e : Rat} (h : ∀ t ∈ es, Rb n t) (hm : mnB es = some e) : Rb n e := by
  cases es with
  | nil => cases hm
  | cons x l =>
    cases hm
    exact fold_rb (h x List.mem_cons_self) fun r hr => h r (List.mem_cons_of_mem _ hr)
noncomputable def tl57 : FS := (sSeq (sIf (tV (fO gGt (fO gIx (fCP m__law_less (fCons (fO gIx (fV 8) (fC (.int 0))) (fCons (fV 2) fNil))) (fC (.int 0))) (fC (.int 0)))) (sAsg (fO gIx (fV 8) (fC (.int 0))) (gN 2)) sNext)
    (sIf (tOr2 (tV (fO gIsN (fV 3) (fC .non))) (tV (fO gLt (fO gIx (fCP m__law_less (fCons (fO gIx (fV 8) (fC (.int 1))) (fCons (fV 3) fNil))) (fC (.int 0))) (fC (.int 0))))) (sAsg (fO gIx (fV 8) (fC (.int 1))) (gN 3)) sNext))
theorem tl57_e : (sSeq (sIf (tV (fO gGt (fO gIx (fCP m__law_less (fCons (fO gIx (fV 8) (fC (.int 0))) (fCons (fV 2) fNil))) (fC (.int 0))) (fC (.int 0)))) (sAsg (fO gIx (fV 8) (fC (.int 0))) (gN 2)) sNext)
    (sIf (tOr2 (tV (fO gIsN (fV 3) (fC .non))) (tV (fO gLt (fO gIx (fCP m__law_less (fCons (fO gIx (fV 8) (fC (.int 1))) (fCons (fV 3) fNil))) (fC (.int 0))) (fC (.int 0))))) (sAsg (fO gIx (fV 8) (fC (.int 1))) (gN 3)) sNext)) = tl57 := rfl
theorem span57 {m n k o : Nat} {lo hi p w : P3} (hlo : lo.B m) (hhi : hi.B n) (hp : p.B k) (hw : w.B o) (ne : w.ne) (hb : m + n + k + o ≤ 3000) : m__law_span [.tup [eP lo, eP hi], .tup [eP p, eP w]] = some (eOut (outB lo hi p w)) := by
  have lo0 : D.los 0 [.tup [eP lo, eP hi], .tup [eP p, eP w]] = true := rfl
  have fin : W (b__law_span [some (.tup [eP lo, eP hi]), some (.tup [eP p, eP w]), none, none, none, none, none, none, none] []) fun y => ∃ M, y = (.rt (eOut (outB lo hi p w)), M) := by
    unfold b__law_span
    simp only [↓ev_V, ↓ev_C, ↓ev_O, ↓ev_U, ↓ev_Nil, ↓ev_Cons, ↓ev_L, ↓ev_If, ↓ev_tV, ↓ev_tTr, ↓ev_tAn, ↓ev_tOr, ↓ev_tNo, ↓ev_NotB, ↓ev_AnB, ↓ev_OrB, ↓ev_Tup, ↓ev_Lst, ↓ev_CP, ↓ev_ML, ↓ev_Sli, ↓ev_oN, ↓ev_oS, ↓ev_Ch, ↓ev_gN, ↓ev_gsNil, ↓ev_gsCons, ↓ev_gT, ↓ev_Seq, ↓ev_Asg, ↓ev_Par, ↓ev_Ret, ↓ev_Drop, ↓ev_sIf, ↓ev_Next, ↓ev_Brk, ↓ev_Cont, ↓ev_RetN, ↓ev_Sub, ↓ev_For, ↓ev_body, ↓ev_iE, ↓ev_iR1, ↓ev_iR2, ↓ev_iZ, ↓ev_iEn, ↓ev_item, ↓ev_Lc, ↓ev_Yes, ↓ev_Par3, ↓ev_As2, ↓ev_As4, ↓ev_CV, ↓ev_Fld, ↓ev_Mk, ↓ev_Mk0, ↓ev_Mt, ↓ev_ForM, ↓ev_bodyM, ↓ev_gTmT, ↓ev_gTmR, ↓ev_AsgM, ↓ev_Star, ↓ev_Dc, ↓ev_iRr, ↓ev_iRv, ↓ev_iZ3, ↓ev_iZ4, ↓ev_LR2, kForM_e, kAsgM_e, kSt1_e, kSt2_e, kSt3_e, seqT, seqRf, popRf, insRf, inE, notInE, kDc_e, kRr_e, kRv_e, revT, revL, vOf_e, kO_e, kO2_e, kU_e, kCons_e, kCons2_e, kL_e, kIf_t, kIf_f, kB_e, kTr_e, kTr2_e, kAn_t, kAn_f, kOr_t, kOr_f, kNo_e, kNotB_e, kAnB_t, kAnB_f, kOrB_t, kOrB_f, kTup_e, kLst_e, kCP_e, kD_e, kML_e, kML2_e, kS1_e, kS2_e, kS3_e, kI_e, kCh1_e, kCh2_e, kCh3_t, kCh3_f, kAsg_e, kNx_e, kRet_e, kDrop_e, kSif_t, kSif_f, kSub1_e, kSub2_e, kSub3_e, kNxM_e, kFor_e, kBody_e, kIE_e, kSrc_e, kR1_e, kR2_e, kR2b_e, kZ1_e, kZ2_e, kEn_e, kMap_e, kMap2_e, kIt1_e, kIt2_t, kIt2_f, kSome_e, kLc_e, kLc2_e, kGc_e, par3_e, kAs2_e, kAs3_e, kAs4_e, kAs5_e, kAs6_e, fnOf2_e, fnV_e, kCV_e, kFld1_e, kFld2_e, kMk_e, kMk2_e, kMt_e, kMt2_e, kMt3_e, gFldE, setFE, metE, insAt_zero, insAt_succ, ob_s, ob_n, then_nx, then_rt, then_bk, then_ct, par2_e, turn_ct, turn_bk, turn_rt, mapT_nil, mapT_cons, finP_nx, finM_rt, finM_nx, addE, subE, negE, cmpE, ixT, truI, truB, at0, at1, at2, at3, List.getElem?_cons_zero, List.getElem?_cons_succ, List.set_cons_zero, List.set_cons_succ, List.length_cons, List.length_nil, Nat.reduceAdd, Nat.reduceLeDiff, if_true, if_false, reduceIte, reduceCtorEq, id_eq, Bool.not_true, Bool.not_false, Bool.false_eq_true, and_self, Int.reduceLE, Int.reduceLT, Int.reduceNeg, decide_true, decide_false, Option.toList_some, Option.toList_none, List.cons_append, List.nil_append, ixRf, tupRf, lenRf, listRf, isLstRf, appRf, revRf, setRf, itemsRf, itemsT, itemsL, zipT, zipRf, allRf, anyRf, sumRf, tupT, slRf, isiE, t2E, lenT, lstAt_zero, lstAt_succ, Option.isSome_some, Nat.reduceLT, Bool.or_true, Bool.or_false, Bool.true_or, Bool.false_or, gIsN, gNotN, D.isNon, wipeD, isBlE, notBlE, min1Rf, kZa_e, kZb_e, kZc_e, kZd_e, kZe_e, kZa4_e, kZb4_e, kLRa_e, kLRb_e, zip3T, zip4T, eF01]
    refine W.runRC (fun j ρ M => ∃ b es x4 x5 x6 x7 x8, SzB (m + n + k + 1 + o) (b, es) ∧ foldB ((axsB lo hi p w).take j) = some (b, es) ∧ ρ = [some (.tup [eP lo, eP hi]), some (.tup [eP p, eP w]), some (eF b), some (eMn (mnB es)), x4, x5, x6, x7, x8]) (fun v M => v = .non ∧ foldB (axsB lo hi p w) = none) ⟨0, [], none, none, none, none, none, ⟨⟨by unfold Bt; exact Nat.two_pow_pos _, by unfold Bt; exact Nat.one_lt_two_pow (by omega)⟩, fun _ h => (by cases h)⟩, rfl, rfl⟩ (fun _ _ _ _ => trivial) ?_ ?_ ?_
    · rintro j d hd ρ M ⟨b, es, x4, x5, x6, x7, x8, sz, hf, rfl⟩
      obtain ⟨hj, rfl⟩ := upto_get hd
      replace hj : j < 3 := hj
      obtain ⟨l, hh, a, ww, i1, i2, i3, i4, hax, hsz⟩ := ixs57 lo hi p w hj
      obtain ⟨s1, s2, s3, s4⟩ := hsz m n k o hlo hhi hp hw
      have nxt := foldB_take hax
      rw [hf] at nxt
      have m1 := lless57 s1 s3 (show m + k ≤ 9000 by omega)
      have m2 := lless57 s2 s3 (show n + k ≤ 9000 by omega)
      rw [tl57_e]
      by_cases hz : ww = 0
      · have sg : (ww.num == 0) = true := by rw [hz]; rfl
        by_cases c1 : a < l
        · have a0 : axB l hh a ww = none := by unfold axB; rw [if_pos hz, if_pos (.inl c1)]
          rw [a0] at nxt
          have q1 : decide ((l - a).num > 0) = true := decide_eq_true ((num_gt _).mpr (by grind))
          simp only [↓ev_V, ↓ev_C, ↓ev_O, ↓ev_U, ↓ev_Nil, ↓ev_Cons, ↓ev_L, ↓ev_If, ↓ev_tV, ↓ev_tTr, ↓ev_tAn, ↓ev_tOr, ↓ev_tNo, ↓ev_NotB, ↓ev_AnB, ↓ev_OrB, ↓ev_Tup, ↓ev_Lst, ↓ev_CP, ↓ev_ML, ↓ev_Sli, ↓ev_oN, ↓ev_oS, ↓ev_Ch, ↓ev_gN, ↓ev_gsNil, ↓ev_gsCons, ↓ev_gT, ↓ev_Seq, ↓ev_Asg, ↓ev_Par, ↓ev_Ret, ↓ev_Drop, ↓ev_sIf, ↓ev_Next, ↓ev_Brk, ↓ev_Cont, ↓ev_RetN, ↓ev_Sub, ↓ev_For, ↓ev_body, ↓ev_iE, ↓ev_iR1, ↓ev_iR2, ↓ev_iZ, ↓ev_iEn, ↓ev_item, ↓ev_Lc, ↓ev_Yes, ↓ev_Par3, ↓ev_As2, ↓ev_As4, ↓ev_CV, ↓ev_Fld, ↓ev_Mk, ↓ev_Mk0, ↓ev_Mt, ↓ev_ForM, ↓ev_bodyM, ↓ev_gTmT, ↓ev_gTmR, ↓ev_AsgM, ↓ev_Star, ↓ev_Dc, ↓ev_iRr, ↓ev_iRv, ↓ev_iZ3, ↓ev_iZ4, ↓ev_LR2, kForM_e, kAsgM_e, kSt1_e, kSt2_e, kSt3_e, seqT, seqRf, popRf, insRf, inE, notInE, kDc_e, kRr_e, kRv_e, revT, revL, vOf_e, kO_e, kO2_e, kU_e, kCons_e, kCons2_e, kL_e, kIf_t, kIf_f, kB_e, kTr_e, kTr2_e, kAn_t, kAn_f, kOr_t, kOr_f, kNo_e, kNotB_e, kAnB_t, kAnB_f, kOrB_t, kOrB_f, kTup_e, kLst_e, kCP_e, kD_e, kML_e, kML2_e, kS1_e, kS2_e, kS3_e, kI_e, kCh1_e, kCh2_e, kCh3_t, kCh3_f, kAsg_e, kNx_e, kRet_e, kDrop_e, kSif_t, kSif_f, kSub1_e, kSub2_e, kSub3_e, kNxM_e, kFor_e, kBody_e, kIE_e, kSrc_e, kR1_e, kR2_e, kR2b_e, kZ1_e, kZ2_e, kEn_e, kMap_e, kMap2_e, kIt1_e, kIt2_t, kIt2_f, kSome_e, kLc_e, kLc2_e, kGc_e, par3_e, kAs2_e, kAs3_e, kAs4_e, kAs5_e, kAs6_e, fnOf2_e, fnV_e, kCV_e, kFld1_e, kFld2_e, kMk_e, kMk2_e, kMt_e, kMt2_e, kMt3_e, gFldE, setFE, metE, insAt_zero, insAt_succ, ob_s, ob_n, then_nx, then_rt, then_bk, then_ct, par2_e, turn_nx, turn_ct, turn_bk, turn_rt, runT_nil, runT_cons, mapT_nil, mapT_cons, finP_nx, finM_rt, finM_nx, addE, subE, negE, cmpE, ixT, truI, truB, at0, at1, at2, at3, List.getElem?_cons_zero, List.getElem?_cons_succ, List.set_cons_zero, List.set_cons_succ, List.length_cons, List.length_nil, Nat.reduceAdd, Nat.reduceLeDiff, if_true, if_false, reduceIte, reduceCtorEq, id_eq, Bool.not_true, Bool.not_false, Bool.false_eq_true, and_self, Int.reduceLE, Int.reduceLT, Int.reduceNeg, decide_true, decide_false, Option.toList_some, Option.toList_none, List.cons_append, List.nil_append, ixRf, tupRf, lenRf, listRf, isLstRf, appRf, revRf, setRf, itemsRf, itemsT, itemsL, zipT, zipRf, allRf, anyRf, sumRf, tupT, slRf, isiE, t2E, lenT, lstAt_zero, lstAt_succ, Option.isSome_some, Nat.reduceLT, Bool.or_true, Bool.or_false, Bool.true_or, Bool.false_or, gIsN, gNotN, D.isNon, wipeD, isBlE, notBlE, min1Rf, kZa_e, kZb_e, kZc_e, kZd_e, kZe_e, kZa4_e, kZb4_e, kLRa_e, kLRb_e, zip3T, zip4T, i1, i2, i3, i4, m1, m2, ix_eF0, eqIb, sg, q1]
          exact W.ret (.inr ⟨_, _, rfl, rfl, foldB_dead nxt⟩)
        · have q1 : decide ((l - a).num > 0) = false := decide_eq_false fun z => by have := (num_gt _).mp z; grind
          by_cases c2 : hh < a
          · have a0 : axB l hh a ww = none := by unfold axB; rw [if_pos hz, if_pos (.inr c2)]
            rw [a0] at nxt
            have q2 : decide ((hh - a).num < 0) = true := decide_eq_true ((num_lt _).mpr (by grind))
            simp only [↓ev_V, ↓ev_C, ↓ev_O, ↓ev_U, ↓ev_Nil, ↓ev_Cons, ↓ev_L, ↓ev_If, ↓ev_tV, ↓ev_tTr, ↓ev_tAn, ↓ev_tOr, ↓ev_tNo, ↓ev_NotB, ↓ev_AnB, ↓ev_OrB, ↓ev_Tup, ↓ev_Lst, ↓ev_CP, ↓ev_ML, ↓ev_Sli, ↓ev_oN, ↓ev_oS, ↓ev_Ch, ↓ev_gN, ↓ev_gsNil, ↓ev_gsCons, ↓ev_gT, ↓ev_Seq, ↓ev_Asg, ↓ev_Par, ↓ev_Ret, ↓ev_Drop, ↓ev_sIf, ↓ev_Next, ↓ev_Brk, ↓ev_Cont, ↓ev_RetN, ↓ev_Sub, ↓ev_For, ↓ev_body, ↓ev_iE, ↓ev_iR1, ↓ev_iR2, ↓ev_iZ, ↓ev_iEn, ↓ev_item, ↓ev_Lc, ↓ev_Yes, ↓ev_Par3, ↓ev_As2, ↓ev_As4, ↓ev_CV, ↓ev_Fld, ↓ev_Mk, ↓ev_Mk0, ↓ev_Mt, ↓ev_ForM, ↓ev_bodyM, ↓ev_gTmT, ↓ev_gTmR, ↓ev_AsgM, ↓ev_Star, ↓ev_Dc, ↓ev_iRr, ↓ev_iRv, ↓ev_iZ3, ↓ev_iZ4, ↓ev_LR2, kForM_e, kAsgM_e, kSt1_e, kSt2_e, kSt3_e, seqT, seqRf, popRf, insRf, inE, notInE, kDc_e, kRr_e, kRv_e, revT, revL, vOf_e, kO_e, kO2_e, kU_e, kCons_e, kCons2_e, kL_e, kIf_t, kIf_f, kB_e, kTr_e, kTr2_e, kAn_t, kAn_f, kOr_t, kOr_f, kNo_e, kNotB_e, kAnB_t, kAnB_f, kOrB_t, kOrB_f, kTup_e, kLst_e, kCP_e, kD_e, kML_e, kML2_e, kS1_e, kS2_e, kS3_e, kI_e, kCh1_e, kCh2_e, kCh3_t, kCh3_f, kAsg_e, kNx_e, kRet_e, kDrop_e, kSif_t, kSif_f, kSub1_e, kSub2_e, kSub3_e, kNxM_e, kFor_e, kBody_e, kIE_e, kSrc_e, kR1_e, kR2_e, kR2b_e, kZ1_e, kZ2_e, kEn_e, kMap_e, kMap2_e, kIt1_e, kIt2_t, kIt2_f, kSome_e, kLc_e, kLc2_e, kGc_e, par3_e, kAs2_e, kAs3_e, kAs4_e, kAs5_e, kAs6_e, fnOf2_e, fnV_e, kCV_e, kFld1_e, kFld2_e, kMk_e, kMk2_e, kMt_e, kMt2_e, kMt3_e, gFldE, setFE, metE, insAt_zero, insAt_succ, ob_s, ob_n, then_nx, then_rt, then_bk, then_ct, par2_e, turn_nx, turn_ct, turn_bk, turn_rt, runT_nil, runT_cons, mapT_nil, mapT_cons, finP_nx, finM_rt, finM_nx, addE, subE, negE, cmpE, ixT, truI, truB, at0, at1, at2, at3, List.getElem?_cons_zero, List.getElem?_cons_succ, List.set_cons_zero, List.set_cons_succ, List.length_cons, List.length_nil, Nat.reduceAdd, Nat.reduceLeDiff, if_true, if_false, reduceIte, reduceCtorEq, id_eq, Bool.not_true, Bool.not_false, Bool.false_eq_true, and_self, Int.reduceLE, Int.reduceLT, Int.reduceNeg, decide_true, decide_false, Option.toList_some, Option.toList_none, List.cons_append, List.nil_append, ixRf, tupRf, lenRf, listRf, isLstRf, appRf, revRf, setRf, itemsRf, itemsT, itemsL, zipT, zipRf, allRf, anyRf, sumRf, tupT, slRf, isiE, t2E, lenT, lstAt_zero, lstAt_succ, Option.isSome_some, Nat.reduceLT, Bool.or_true, Bool.or_false, Bool.true_or, Bool.false_or, gIsN, gNotN, D.isNon, wipeD, isBlE, notBlE, min1Rf, kZa_e, kZb_e, kZc_e, kZd_e, kZe_e, kZa4_e, kZb4_e, kLRa_e, kLRb_e, zip3T, zip4T, i1, i2, i3, i4, m1, m2, ix_eF0, eqIb, sg, q1, q2]
            exact W.ret (.inr ⟨_, _, rfl, rfl, foldB_dead nxt⟩)
          · have a0 : axB l hh a ww = some none := by unfold axB; rw [if_pos hz, if_neg (by rintro (c | c); exact c1 c; exact c2 c)]
            have q2 : decide ((hh - a).num < 0) = false := decide_eq_false fun z => by have := (num_lt _).mp z; grind
            rw [a0] at nxt
            simp only [↓ev_V, ↓ev_C, ↓ev_O, ↓ev_U, ↓ev_Nil, ↓ev_Cons, ↓ev_L, ↓ev_If, ↓ev_tV, ↓ev_tTr, ↓ev_tAn, ↓ev_tOr, ↓ev_tNo, ↓ev_NotB, ↓ev_AnB, ↓ev_OrB, ↓ev_Tup, ↓ev_Lst, ↓ev_CP, ↓ev_ML, ↓ev_Sli, ↓ev_oN, ↓ev_oS, ↓ev_Ch, ↓ev_gN, ↓ev_gsNil, ↓ev_gsCons, ↓ev_gT, ↓ev_Seq, ↓ev_Asg, ↓ev_Par, ↓ev_Ret, ↓ev_Drop, ↓ev_sIf, ↓ev_Next, ↓ev_Brk, ↓ev_Cont, ↓ev_RetN, ↓ev_Sub, ↓ev_For, ↓ev_body, ↓ev_iE, ↓ev_iR1, ↓ev_iR2, ↓ev_iZ, ↓ev_iEn, ↓ev_item, ↓ev_Lc, ↓ev_Yes, ↓ev_Par3, ↓ev_As2, ↓ev_As4, ↓ev_CV, ↓ev_Fld, ↓ev_Mk, ↓ev_Mk0, ↓ev_Mt, ↓ev_ForM, ↓ev_bodyM, ↓ev_gTmT, ↓ev_gTmR, ↓ev_AsgM, ↓ev_Star, ↓ev_Dc, ↓ev_iRr, ↓ev_iRv, ↓ev_iZ3, ↓ev_iZ4, ↓ev_LR2, kForM_e, kAsgM_e, kSt1_e, kSt2_e, kSt3_e, seqT, seqRf, popRf, insRf, inE, notInE, kDc_e, kRr_e, kRv_e, revT, revL, vOf_e, kO_e, kO2_e, kU_e, kCons_e, kCons2_e, kL_e, kIf_t, kIf_f, kB_e, kTr_e, kTr2_e, kAn_t, kAn_f, kOr_t, kOr_f, kNo_e, kNotB_e, kAnB_t, kAnB_f, kOrB_t, kOrB_f, kTup_e, kLst_e, kCP_e, kD_e, kML_e, kML2_e, kS1_e, kS2_e, kS3_e, kI_e, kCh1_e, kCh2_e, kCh3_t, kCh3_f, kAsg_e, kNx_e, kRet_e, kDrop_e, kSif_t, kSif_f, kSub1_e, kSub2_e, kSub3_e, kNxM_e, kFor_e, kBody_e, kIE_e, kSrc_e, kR1_e, kR2_e, kR2b_e, kZ1_e, kZ2_e, kEn_e, kMap_e, kMap2_e, kIt1_e, kIt2_t, kIt2_f, kSome_e, kLc_e, kLc2_e, kGc_e, par3_e, kAs2_e, kAs3_e, kAs4_e, kAs5_e, kAs6_e, fnOf2_e, fnV_e, kCV_e, kFld1_e, kFld2_e, kMk_e, kMk2_e, kMt_e, kMt2_e, kMt3_e, gFldE, setFE, metE, insAt_zero, insAt_succ, ob_s, ob_n, then_nx, then_rt, then_bk, then_ct, par2_e, turn_nx, turn_ct, turn_bk, turn_rt, runT_nil, runT_cons, mapT_nil, mapT_cons, finP_nx, finM_rt, finM_nx, addE, subE, negE, cmpE, ixT, truI, truB, at0, at1, at2, at3, List.getElem?_cons_zero, List.getElem?_cons_succ, List.set_cons_zero, List.set_cons_succ, List.length_cons, List.length_nil, Nat.reduceAdd, Nat.reduceLeDiff, if_true, if_false, reduceIte, reduceCtorEq, id_eq, Bool.not_true, Bool.not_false, Bool.false_eq_true, and_self, Int.reduceLE, Int.reduceLT, Int.reduceNeg, decide_true, decide_false, Option.toList_some, Option.toList_none, List.cons_append, List.nil_append, ixRf, tupRf, lenRf, listRf, isLstRf, appRf, revRf, setRf, itemsRf, itemsT, itemsL, zipT, zipRf, allRf, anyRf, sumRf, tupT, slRf, isiE, t2E, lenT, lstAt_zero, lstAt_succ, Option.isSome_some, Nat.reduceLT, Bool.or_true, Bool.or_false, Bool.true_or, Bool.false_or, gIsN, gNotN, D.isNon, wipeD, isBlE, notBlE, min1Rf, kZa_e, kZb_e, kZc_e, kZd_e, kZe_e, kZa4_e, kZb4_e, kLRa_e, kLRb_e, zip3T, zip4T, i1, i2, i3, i4, m1, m2, ix_eF0, eqIb, sg, q1, q2]
            exact W.ret (.inl ⟨_, _, .inl rfl, b, es, _, _, _, _, _, sz, nxt, rfl⟩)
      · have sg : (ww.num == 0) = false := by simpa using num_ne hz
        have t1 := lthrough57 (s1.sub s3) s4 (by omega) hz
        have t2 := lthrough57 (s2.sub s3) s4 (by omega) hz
        -- the two ends in their order
        have key : ∀ (q : Rat × Rat) (X : Mem) (r : Nat), axB l hh a ww = some (some q) → lstAt X r = some [eF q.1, eF q.2] → W (tl57 [some (.tup [eP lo, eP hi]), some (.tup [eP p, eP w]), some (eF b), some (eMn (mnB es)), some (.int (0 + (j : Nat))), some (eF (l - a)), some (eF (hh - a)), some (eF ww), some (.rf r)] X) fun y => (∃ ρ' M', (y = (.nx ρ', M') ∨ y = (.ct ρ', M')) ∧ ∃ b es x4 x5 x6 x7 x8, SzB (m + n + k + 1 + o) (b, es) ∧ foldB ((axsB lo hi p w).take (j + 1)) = some (b, es) ∧ ρ' = [some (.tup [eP lo, eP hi]), some (.tup [eP p, eP w]), some (eF b), some (eMn (mnB es)), x4, x5, x6, x7, x8]) ∨ ∃ v M', y = (.rt v, M') ∧ v = .non ∧ foldB (axsB lo hi p w) = none := by
          intro q X r hq hX
          unfold tl57
          obtain ⟨z1, z2⟩ := axB_sz (s1.mono (show m ≤ m + n by omega)) (s2.mono (show n ≤ m + n by omega)) s3 s4 q hq
          have sz' := stB_sz (s := (b, es)) (s' := (if b < q.1 then q.1 else b, es ++ [q.2])) sz (a := some (some q)) (fun p hp => by cases hp; exact ⟨z1, z2⟩) rfl
          rw [hq] at nxt
          have n1 := lless57 z1 sz.1 (by omega)
          have done : ∀ (b' : Rat) (v : D) (X : Mem), (if b < q.1 then q.1 else b) = b' → eMn (mnB (es ++ [q.2])) = v → W (some ((.nx [some (.tup [eP lo, eP hi]), some (.tup [eP p, eP w]), some (eF b'), some v, some (.int (0 + (j : Nat))), some (eF (l - a)), some (eF (hh - a)), some (eF ww), some (.rf r)], X) : Fl × Mem)) fun y => (∃ ρ' M', (y = (.nx ρ', M') ∨ y = (.ct ρ', M')) ∧ ∃ b es x4 x5 x6 x7 x8, SzB (m + n + k + 1 + o) (b, es) ∧ foldB ((axsB lo hi p w).take (j + 1)) = some (b, es) ∧ ρ' = [some (.tup [eP lo, eP hi]), some (.tup [eP p, eP w]), some (eF b), some (eMn (mnB es)), x4, x5, x6, x7, x8]) ∨ ∃ v M', y = (.rt v, M') ∧ v = .non ∧ foldB (axsB lo hi p w) = none := by
            rintro b' v X rfl rfl
            exact W.ret (.inl ⟨_, _, .inl rfl, _, es ++ [q.2], _, _, _, _, _, sz', nxt, rfl⟩)
          have e1 : decide ((q.1 - b).num > 0) = decide (b < q.1) := decide_eq_decide.mpr ⟨fun z => by have := (num_gt _).mp z; grind, fun z => (num_gt _).mpr (by grind)⟩
          cases hm : mnB es with
          | none =>
            have v0 : eMn (mnB (es ++ [q.2])) = eF q.2 := by rw [mnB_snoc, hm]; rfl
            have nn : ∀ M, gIsN (eMn none) .non M = some (.bl true, M) := fun _ => rfl
            by_cases c1 : b < q.1
            · simp only [↓ev_V, ↓ev_C, ↓ev_O, ↓ev_U, ↓ev_Nil, ↓ev_Cons, ↓ev_L, ↓ev_If, ↓ev_tV, ↓ev_tTr, ↓ev_tAn, ↓ev_tOr, ↓ev_tNo, ↓ev_NotB, ↓ev_AnB, ↓ev_OrB, ↓ev_Tup, ↓ev_Lst, ↓ev_CP, ↓ev_ML, ↓ev_Sli, ↓ev_oN, ↓ev_oS, ↓ev_Ch, ↓ev_gN, ↓ev_gsNil, ↓ev_gsCons, ↓ev_gT, ↓ev_Seq, ↓ev_Asg, ↓ev_Par, ↓ev_Ret, ↓ev_Drop, ↓ev_sIf, ↓ev_Next, ↓ev_Brk, ↓ev_Cont, ↓ev_RetN, ↓ev_Sub, ↓ev_For, ↓ev_body, ↓ev_iE, ↓ev_iR1, ↓ev_iR2, ↓ev_iZ, ↓ev_iEn, ↓ev_item, ↓ev_Lc, ↓ev_Yes, ↓ev_Par3, ↓ev_As2, ↓ev_As4, ↓ev_CV, ↓ev_Fld, ↓ev_Mk, ↓ev_Mk0, ↓ev_Mt, ↓ev_ForM, ↓ev_bodyM, ↓ev_gTmT, ↓ev_gTmR, ↓ev_AsgM, ↓ev_Star, ↓ev_Dc, ↓ev_iRr, ↓ev_iRv, ↓ev_iZ3, ↓ev_iZ4, ↓ev_LR2, kForM_e, kAsgM_e, kSt1_e, kSt2_e, kSt3_e, seqT, seqRf, popRf, insRf, inE, notInE, kDc_e, kRr_e, kRv_e, revT, revL, vOf_e, kO_e, kO2_e, kU_e, kCons_e, kCons2_e, kL_e, kIf_t, kIf_f, kB_e, kTr_e, kTr2_e, kAn_t, kAn_f, kOr_t, kOr_f, kNo_e, kNotB_e, kAnB_t, kAnB_f, kOrB_t, kOrB_f, kTup_e, kLst_e, kCP_e, kD_e, kML_e, kML2_e, kS1_e, kS2_e, kS3_e, kI_e, kCh1_e, kCh2_e, kCh3_t, kCh3_f, kAsg_e, kNx_e, kRet_e, kDrop_e, kSif_t, kSif_f, kSub1_e, kSub2_e, kSub3_e, kNxM_e, kFor_e, kBody_e, kIE_e, kSrc_e, kR1_e, kR2_e, kR2b_e, kZ1_e, kZ2_e, kEn_e, kMap_e, kMap2_e, kIt1_e, kIt2_t, kIt2_f, kSome_e, kLc_e, kLc2_e, kGc_e, par3_e, kAs2_e, kAs3_e, kAs4_e, kAs5_e, kAs6_e, fnOf2_e, fnV_e, kCV_e, kFld1_e, kFld2_e, kMk_e, kMk2_e, kMt_e, kMt2_e, kMt3_e, gFldE, setFE, metE, insAt_zero, insAt_succ, ob_s, ob_n, then_nx, then_rt, then_bk, then_ct, par2_e, turn_nx, turn_ct, turn_bk, turn_rt, runT_nil, runT_cons, mapT_nil, mapT_cons, finP_nx, finM_rt, finM_nx, addE, subE, negE, cmpE, ixT, truI, truB, at0, at1, at2, at3, List.getElem?_cons_zero, List.getElem?_cons_succ, List.set_cons_zero, List.set_cons_succ, List.length_cons, List.length_nil, Nat.reduceAdd, Nat.reduceLeDiff, if_true, if_false, reduceIte, reduceCtorEq, id_eq, Bool.not_true, Bool.not_false, Bool.false_eq_true, and_self, Int.reduceLE, Int.reduceLT, Int.reduceNeg, decide_true, decide_false, Option.toList_some, Option.toList_none, List.cons_append, List.nil_append, ixRf, tupRf, lenRf, listRf, isLstRf, appRf, revRf, setRf, itemsRf, itemsT, itemsL, zipT, zipRf, allRf, anyRf, sumRf, tupT, slRf, isiE, t2E, lenT, lstAt_zero, lstAt_succ, Option.isSome_some, Nat.reduceLT, Bool.or_true, Bool.or_false, Bool.true_or, Bool.false_or, gNotN, D.isNon, wipeD, isBlE, notBlE, min1Rf, kZa_e, kZb_e, kZc_e, kZd_e, kZe_e, kZa4_e, kZb4_e, kLRa_e, kLRb_e, zip3T, zip4T, hX, n1, ix_eF0, e1, decide_eq_true c1, nn]
              exact done _ _ _ (if_pos c1) v0
            · simp only [↓ev_V, ↓ev_C, ↓ev_O, ↓ev_U, ↓ev_Nil, ↓ev_Cons, ↓ev_L, ↓ev_If, ↓ev_tV, ↓ev_tTr, ↓ev_tAn, ↓ev_tOr, ↓ev_tNo, ↓ev_NotB, ↓ev_AnB, ↓ev_OrB, ↓ev_Tup, ↓ev_Lst, ↓ev_CP, ↓ev_ML, ↓ev_Sli, ↓ev_oN, ↓ev_oS, ↓ev_Ch, ↓ev_gN, ↓ev_gsNil, ↓ev_gsCons, ↓ev_gT, ↓ev_Seq, ↓ev_Asg, ↓ev_Par, ↓ev_Ret, ↓ev_Drop, ↓ev_sIf, ↓ev_Next, ↓ev_Brk, ↓ev_Cont, ↓ev_RetN, ↓ev_Sub, ↓ev_For, ↓ev_body, ↓ev_iE, ↓ev_iR1, ↓ev_iR2, ↓ev_iZ, ↓ev_iEn, ↓ev_item, ↓ev_Lc, ↓ev_Yes, ↓ev_Par3, ↓ev_As2, ↓ev_As4, ↓ev_CV, ↓ev_Fld, ↓ev_Mk, ↓ev_Mk0, ↓ev_Mt, ↓ev_ForM, ↓ev_bodyM, ↓ev_gTmT, ↓ev_gTmR, ↓ev_AsgM, ↓ev_Star, ↓ev_Dc, ↓ev_iRr, ↓ev_iRv, ↓ev_iZ3, ↓ev_iZ4, ↓ev_LR2, kForM_e, kAsgM_e, kSt1_e, kSt2_e, kSt3_e, seqT, seqRf, popRf, insRf, inE, notInE, kDc_e, kRr_e, kRv_e, revT, revL, vOf_e, kO_e, kO2_e, kU_e, kCons_e, kCons2_e, kL_e, kIf_t, kIf_f, kB_e, kTr_e, kTr2_e, kAn_t, kAn_f, kOr_t, kOr_f, kNo_e, kNotB_e, kAnB_t, kAnB_f, kOrB_t, kOrB_f, kTup_e, kLst_e, kCP_e, kD_e, kML_e, kML2_e, kS1_e, kS2_e, kS3_e, kI_e, kCh1_e, kCh2_e, kCh3_t, kCh3_f, kAsg_e, kNx_e, kRet_e, kDrop_e, kSif_t, kSif_f, kSub1_e, kSub2_e, kSub3_e, kNxM_e, kFor_e, kBody_e, kIE_e, kSrc_e, kR1_e, kR2_e, kR2b_e, kZ1_e, kZ2_e, kEn_e, kMap_e, kMap2_e, kIt1_e, kIt2_t, kIt2_f, kSome_e, kLc_e, kLc2_e, kGc_e, par3_e, kAs2_e, kAs3_e, kAs4_e, kAs5_e, kAs6_e, fnOf2_e, fnV_e, kCV_e, kFld1_e, kFld2_e, kMk_e, kMk2_e, kMt_e, kMt2_e, kMt3_e, gFldE, setFE, metE, insAt_zero, insAt_succ, ob_s, ob_n, then_nx, then_rt, then_bk, then_ct, par2_e, turn_nx, turn_ct, turn_bk, turn_rt, runT_nil, runT_cons, mapT_nil, mapT_cons, finP_nx, finM_rt, finM_nx, addE, subE, negE, cmpE, ixT, truI, truB, at0, at1, at2, at3, List.getElem?_cons_zero, List.getElem?_cons_succ, List.set_cons_zero, List.set_cons_succ, List.length_cons, List.length_nil, Nat.reduceAdd, Nat.reduceLeDiff, if_true, if_false, reduceIte, reduceCtorEq, id_eq, Bool.not_true, Bool.not_false, Bool.false_eq_true, and_self, Int.reduceLE, Int.reduceLT, Int.reduceNeg, decide_true, decide_false, Option.toList_some, Option.toList_none, List.cons_append, List.nil_append, ixRf, tupRf, lenRf, listRf, isLstRf, appRf, revRf, setRf, itemsRf, itemsT, itemsL, zipT, zipRf, allRf, anyRf, sumRf, tupT, slRf, isiE, t2E, lenT, lstAt_zero, lstAt_succ, Option.isSome_some, Nat.reduceLT, Bool.or_true, Bool.or_false, Bool.true_or, Bool.false_or, gNotN, D.isNon, wipeD, isBlE, notBlE, min1Rf, kZa_e, kZb_e, kZc_e, kZd_e, kZe_e, kZa4_e, kZb4_e, kLRa_e, kLRb_e, zip3T, zip4T, hX, n1, ix_eF0, e1, decide_eq_false c1, nn]
              exact done _ _ _ (if_neg c1) v0
          | some e =>
            have n2 := lless57 z2 (mnB_rb sz.2 hm) (by omega)
            have e2 : decide ((q.2 - e).num < 0) = decide (q.2 < e) := decide_eq_decide.mpr ⟨fun z => by have := (num_lt _).mp z; grind, fun z => (num_lt _).mpr (by grind)⟩
            have nn : ∀ M, gIsN (eF e) .non M = some (.bl false, M) := fun _ => rfl
            have v0 : eMn (mnB (es ++ [q.2])) = eF (if q.2 < e then q.2 else e) := by rw [mnB_snoc, hm]; rfl
            by_cases c2 : q.2 < e
            · rw [if_pos c2] at v0
              by_cases c1 : b < q.1
              · simp only [↓ev_V, ↓ev_C, ↓ev_O, ↓ev_U, ↓ev_Nil, ↓ev_Cons, ↓ev_L, ↓ev_If, ↓ev_tV, ↓ev_tTr, ↓ev_tAn, ↓ev_tOr, ↓ev_tNo, ↓ev_NotB, ↓ev_AnB, ↓ev_OrB, ↓ev_Tup, ↓ev_Lst, ↓ev_CP, ↓ev_ML, ↓ev_Sli, ↓ev_oN, ↓ev_oS, ↓ev_Ch, ↓ev_gN, ↓ev_gsNil, ↓ev_gsCons, ↓ev_gT, ↓ev_Seq, ↓ev_Asg, ↓ev_Par, ↓ev_Ret, ↓ev_Drop, ↓ev_sIf, ↓ev_Next, ↓ev_Brk, ↓ev_Cont, ↓ev_RetN, ↓ev_Sub, ↓ev_For, ↓ev_body, ↓ev_iE, ↓ev_iR1, ↓ev_iR2, ↓ev_iZ, ↓ev_iEn, ↓ev_item, ↓ev_Lc, ↓ev_Yes, ↓ev_Par3, ↓ev_As2, ↓ev_As4, ↓ev_CV, ↓ev_Fld, ↓ev_Mk, ↓ev_Mk0, ↓ev_Mt, ↓ev_ForM, ↓ev_bodyM, ↓ev_gTmT, ↓ev_gTmR, ↓ev_AsgM, ↓ev_Star, ↓ev_Dc, ↓ev_iRr, ↓ev_iRv, ↓ev_iZ3, ↓ev_iZ4, ↓ev_LR2, kForM_e, kAsgM_e, kSt1_e, kSt2_e, kSt3_e, seqT, seqRf, popRf, insRf, inE, notInE, kDc_e, kRr_e, kRv_e, revT, revL, vOf_e, kO_e, kO2_e, kU_e, kCons_e, kCons2_e, kL_e, kIf_t, kIf_f, kB_e, kTr_e, kTr2_e, kAn_t, kAn_f, kOr_t, kOr_f, kNo_e, kNotB_e, kAnB_t, kAnB_f, kOrB_t, kOrB_f, kTup_e, kLst_e, kCP_e, kD_e, kML_e, kML2_e, kS1_e, kS2_e, kS3_e, kI_e, kCh1_e, kCh2_e, kCh3_t, kCh3_f, kAsg_e, kNx_e, kRet_e, kDrop_e, kSif_t, kSif_f, kSub1_e, kSub2_e, kSub3_e, kNxM_e, kFor_e, kBody_e, kIE_e, kSrc_e, kR1_e, kR2_e, kR2b_e, kZ1_e, kZ2_e, kEn_e, kMap_e, kMap2_e, kIt1_e, kIt2_t, kIt2_f, kSome_e, kLc_e, kLc2_e, kGc_e, par3_e, kAs2_e, kAs3_e, kAs4_e, kAs5_e, kAs6_e, fnOf2_e, fnV_e, kCV_e, kFld1_e, kFld2_e, kMk_e, kMk2_e, kMt_e, kMt2_e, kMt3_e, gFldE, setFE, metE, insAt_zero, insAt_succ, ob_s, ob_n, then_nx, then_rt, then_bk, then_ct, par2_e, turn_nx, turn_ct, turn_bk, turn_rt, runT_nil, runT_cons, mapT_nil, mapT_cons, finP_nx, finM_rt, finM_nx, addE, subE, negE, cmpE, ixT, truI, truB, at0, at1, at2, at3, List.getElem?_cons_zero, List.getElem?_cons_succ, List.set_cons_zero, List.set_cons_succ, List.length_cons, List.length_nil, Nat.reduceAdd, Nat.reduceLeDiff, if_true, if_false, reduceIte, reduceCtorEq, id_eq, Bool.not_true, Bool.not_false, Bool.false_eq_true, and_self, Int.reduceLE, Int.reduceLT, Int.reduceNeg, decide_true, decide_false, Option.toList_some, Option.toList_none, List.cons_append, List.nil_append, ixRf, tupRf, lenRf, listRf, isLstRf, appRf, revRf, setRf, itemsRf, itemsT, itemsL, zipT, zipRf, allRf, anyRf, sumRf, tupT, slRf, isiE, t2E, lenT, lstAt_zero, lstAt_succ, Option.isSome_some, Nat.reduceLT, Bool.or_true, Bool.or_false, Bool.true_or, Bool.false_or, gNotN, D.isNon, wipeD, isBlE, notBlE, min1Rf, kZa_e, kZb_e, kZc_e, kZd_e, kZe_e, kZa4_e, kZb4_e, kLRa_e, kLRb_e, zip3T, zip4T, eMn, hX, n1, ix_eF0, e1, decide_eq_true c1, nn, n2, e2, decide_eq_true c2]
                exact done _ _ _ (if_pos c1) v0
              · simp only [↓ev_V, ↓ev_C, ↓ev_O, ↓ev_U, ↓ev_Nil, ↓ev_Cons, ↓ev_L, ↓ev_If, ↓ev_tV, ↓ev_tTr, ↓ev_tAn, ↓ev_tOr, ↓ev_tNo, ↓ev_NotB, ↓ev_AnB, ↓ev_OrB, ↓ev_Tup, ↓ev_Lst, ↓ev_CP, ↓ev_ML, ↓ev_Sli, ↓ev_oN, ↓ev_oS, ↓ev_Ch, ↓ev_gN, ↓ev_gsNil, ↓ev_gsCons, ↓ev_gT, ↓ev_Seq, ↓ev_Asg, ↓ev_Par, ↓ev_Ret, ↓ev_Drop, ↓ev_sIf, ↓ev_Next, ↓ev_Brk, ↓ev_Cont, ↓ev_RetN, ↓ev_Sub, ↓ev_For, ↓ev_body, ↓ev_iE, ↓ev_iR1, ↓ev_iR2, ↓ev_iZ, ↓ev_iEn, ↓ev_item, ↓ev_Lc, ↓ev_Yes, ↓ev_Par3, ↓ev_As2, ↓ev_As4, ↓ev_CV, ↓ev_Fld, ↓ev_Mk, ↓ev_Mk0, ↓ev_Mt, ↓ev_ForM, ↓ev_bodyM, ↓ev_gTmT, ↓ev_gTmR, ↓ev_AsgM, ↓ev_Star, ↓ev_Dc, ↓ev_iRr, ↓ev_iRv, ↓ev_iZ3, ↓ev_iZ4, ↓ev_LR2, kForM_e, kAsgM_e, kSt1_e, kSt2_e, kSt3_e, seqT, seqRf, popRf, insRf, inE, notInE, kDc_e, kRr_e, kRv_e, revT, revL, vOf_e, kO_e, kO2_e, kU_e, kCons_e, kCons2_e, kL_e, kIf_t, kIf_f, kB_e, kTr_e, kTr2_e, kAn_t, kAn_f, kOr_t, kOr_f, kNo_e, kNotB_e, kAnB_t, kAnB_f, kOrB_t, kOrB_f, kTup_e, kLst_e, kCP_e, kD_e, kML_e, kML2_e, kS1_e, kS2_e, kS3_e, kI_e, kCh1_e, kCh2_e, kCh3_t, kCh3_f, kAsg_e, kNx_e, kRet_e, kDrop_e, kSif_t, kSif_f, kSub1_e, kSub2_e, kSub3_e, kNxM_e, kFor_e, kBody_e, kIE_e, kSrc_e, kR1_e, kR2_e, kR2b_e, kZ1_e, kZ2_e, kEn_e, kMap_e, kMap2_e, kIt1_e, kIt2_t, kIt2_f, kSome_e, kLc_e, kLc2_e, kGc_e, par3_e, kAs2_e, kAs3_e, kAs4_e, kAs5_e, kAs6_e, fnOf2_e, fnV_e, kCV_e, kFld1_e, kFld2_e, kMk_e, kMk2_e, kMt_e, kMt2_e, kMt3_e, gFldE, setFE, metE, insAt_zero, insAt_succ, ob_s, ob_n, then_nx, then_rt, then_bk, then_ct, par2_e, turn_nx, turn_ct, turn_bk, turn_rt, runT_nil, runT_cons, mapT_nil, mapT_cons, finP_nx, finM_rt, finM_nx, addE, subE, negE, cmpE, ixT, truI, truB, at0, at1, at2, at3, List.getElem?_cons_zero, List.getElem?_cons_succ, List.set_cons_zero, List.set_cons_succ, List.length_cons, List.length_nil, Nat.reduceAdd, Nat.reduceLeDiff, if_true, if_false, reduceIte, reduceCtorEq, id_eq, Bool.not_true, Bool.not_false, Bool.false_eq_true, and_self, Int.reduceLE, Int.reduceLT, Int.reduceNeg, decide_true, decide_false, Option.toList_some, Option.toList_none, List.cons_append, List.nil_append, ixRf, tupRf, lenRf, listRf, isLstRf, appRf, revRf, setRf, itemsRf, itemsT, itemsL, zipT, zipRf, allRf, anyRf, sumRf, tupT, slRf, isiE, t2E, lenT, lstAt_zero, lstAt_succ, Option.isSome_some, Nat.reduceLT, Bool.or_true, Bool.or_false, Bool.true_or, Bool.false_or, gNotN, D.isNon, wipeD, isBlE, notBlE, min1Rf, kZa_e, kZb_e, kZc_e, kZd_e, kZe_e, kZa4_e, kZb4_e, kLRa_e, kLRb_e, zip3T, zip4T, eMn, hX, n1, ix_eF0, e1, decide_eq_false c1, nn, n2, e2, decide_eq_true c2]
                exact done _ _ _ (if_neg c1) v0
            · rw [if_neg c2] at v0
              by_cases c1 : b < q.1
              · simp only [↓ev_V, ↓ev_C, ↓ev_O, ↓ev_U, ↓ev_Nil, ↓ev_Cons, ↓ev_L, ↓ev_If, ↓ev_tV, ↓ev_tTr, ↓ev_tAn, ↓ev_tOr, ↓ev_tNo, ↓ev_NotB, ↓ev_AnB, ↓ev_OrB, ↓ev_Tup, ↓ev_Lst, ↓ev_CP, ↓ev_ML, ↓ev_Sli, ↓ev_oN, ↓ev_oS, ↓ev_Ch, ↓ev_gN, ↓ev_gsNil, ↓ev_gsCons, ↓ev_gT, ↓ev_Seq, ↓ev_Asg, ↓ev_Par, ↓ev_Ret, ↓ev_Drop, ↓ev_sIf, ↓ev_Next, ↓ev_Brk, ↓ev_Cont, ↓ev_RetN, ↓ev_Sub, ↓ev_For, ↓ev_body, ↓ev_iE, ↓ev_iR1, ↓ev_iR2, ↓ev_iZ, ↓ev_iEn, ↓ev_item, ↓ev_Lc, ↓ev_Yes, ↓ev_Par3, ↓ev_As2, ↓ev_As4, ↓ev_CV, ↓ev_Fld, ↓ev_Mk, ↓ev_Mk0, ↓ev_Mt, ↓ev_ForM, ↓ev_bodyM, ↓ev_gTmT, ↓ev_gTmR, ↓ev_AsgM, ↓ev_Star, ↓ev_Dc, ↓ev_iRr, ↓ev_iRv, ↓ev_iZ3, ↓ev_iZ4, ↓ev_LR2, kForM_e, kAsgM_e, kSt1_e, kSt2_e, kSt3_e, seqT, seqRf, popRf, insRf, inE, notInE, kDc_e, kRr_e, kRv_e, revT, revL, vOf_e, kO_e, kO2_e, kU_e, kCons_e, kCons2_e, kL_e, kIf_t, kIf_f, kB_e, kTr_e, kTr2_e, kAn_t, kAn_f, kOr_t, kOr_f, kNo_e, kNotB_e, kAnB_t, kAnB_f, kOrB_t, kOrB_f, kTup_e, kLst_e, kCP_e, kD_e, kML_e, kML2_e, kS1_e, kS2_e, kS3_e, kI_e, kCh1_e, kCh2_e, kCh3_t, kCh3_f, kAsg_e, kNx_e, kRet_e, kDrop_e, kSif_t, kSif_f, kSub1_e, kSub2_e, kSub3_e, kNxM_e, kFor_e, kBody_e, kIE_e, kSrc_e, kR1_e, kR2_e, kR2b_e, kZ1_e, kZ2_e, kEn_e, kMap_e, kMap2_e, kIt1_e, kIt2_t, kIt2_f, kSome_e, kLc_e, kLc2_e, kGc_e, par3_e, kAs2_e, kAs3_e, kAs4_e, kAs5_e, kAs6_e, fnOf2_e, fnV_e, kCV_e, kFld1_e, kFld2_e, kMk_e, kMk2_e, kMt_e, kMt2_e, kMt3_e, gFldE, setFE, metE, insAt_zero, insAt_succ, ob_s, ob_n, then_nx, then_rt, then_bk, then_ct, par2_e, turn_nx, turn_ct, turn_bk, turn_rt, runT_nil, runT_cons, mapT_nil, mapT_cons, finP_nx, finM_rt, finM_nx, addE, subE, negE, cmpE, ixT, truI, truB, at0, at1, at2, at3, List.getElem?_cons_zero, List.getElem?_cons_succ, List.set_cons_zero, List.set_cons_succ, List.length_cons, List.length_nil, Nat.reduceAdd, Nat.reduceLeDiff, if_true, if_false, reduceIte, reduceCtorEq, id_eq, Bool.not_true, Bool.not_false, Bool.false_eq_true, and_self, Int.reduceLE, Int.reduceLT, Int.reduceNeg, decide_true, decide_false, Option.toList_some, Option.toList_none, List.cons_append, List.nil_append, ixRf, tupRf, lenRf, listRf, isLstRf, appRf, revRf, setRf, itemsRf, itemsT, itemsL, zipT, zipRf, allRf, anyRf, sumRf, tupT, slRf, isiE, t2E, lenT, lstAt_zero, lstAt_succ, Option.isSome_some, Nat.reduceLT, Bool.or_true, Bool.or_false, Bool.true_or, Bool.false_or, gNotN, D.isNon, wipeD, isBlE, notBlE, min1Rf, kZa_e, kZb_e, kZc_e, kZd_e, kZe_e, kZa4_e, kZb4_e, kLRa_e, kLRb_e, zip3T, zip4T, eMn, hX, n1, ix_eF0, e1, decide_eq_true c1, nn, n2, e2, decide_eq_false c2]
                exact done _ _ _ (if_pos c1) v0
              · simp only [↓ev_V, ↓ev_C, ↓ev_O, ↓ev_U, ↓ev_Nil, ↓ev_Cons, ↓ev_L, ↓ev_If, ↓ev_tV, ↓ev_tTr, ↓ev_tAn, ↓ev_tOr, ↓ev_tNo, ↓ev_NotB, ↓ev_AnB, ↓ev_OrB, ↓ev_Tup, ↓ev_Lst, ↓ev_CP, ↓ev_ML, ↓ev_Sli, ↓ev_oN, ↓ev_oS, ↓ev_Ch, ↓ev_gN, ↓ev_gsNil, ↓ev_gsCons, ↓ev_gT, ↓ev_Seq, ↓ev_Asg, ↓ev_Par, ↓ev_Ret, ↓ev_Drop, ↓ev_sIf, ↓ev_Next, ↓ev_Brk, ↓ev_Cont, ↓ev_RetN, ↓ev_Sub, ↓ev_For, ↓ev_body, ↓ev_iE, ↓ev_iR1, ↓ev_iR2, ↓ev_iZ, ↓ev_iEn, ↓ev_item, ↓ev_Lc, ↓ev_Yes, ↓ev_Par3, ↓ev_As2, ↓ev_As4, ↓ev_CV, ↓ev_Fld, ↓ev_Mk, ↓ev_Mk0, ↓ev_Mt, ↓ev_ForM, ↓ev_bodyM, ↓ev_gTmT, ↓ev_gTmR, ↓ev_AsgM, ↓ev_Star, ↓ev_Dc, ↓ev_iRr, ↓ev_iRv, ↓ev_iZ3, ↓ev_iZ4, ↓ev_LR2, kForM_e, kAsgM_e, kSt1_e, kSt2_e, kSt3_e, seqT, seqRf, popRf, insRf, inE, notInE, kDc_e, kRr_e, kRv_e, revT, revL, vOf_e, kO_e, kO2_e, kU_e, kCons_e, kCons2_e, kL_e, kIf_t, kIf_f, kB_e, kTr_e, kTr2_e, kAn_t, kAn_f, kOr_t, kOr_f, kNo_e, kNotB_e, kAnB_t, kAnB_f, kOrB_t, kOrB_f, kTup_e, kLst_e, kCP_e, kD_e, kML_e, kML2_e, kS1_e, kS2_e, kS3_e, kI_e, kCh1_e, kCh2_e, kCh3_t, kCh3_f, kAsg_e, kNx_e, kRet_e, kDrop_e, kSif_t, kSif_f, kSub1_e, kSub2_e, kSub3_e, kNxM_e, kFor_e, kBody_e, kIE_e, kSrc_e, kR1_e, kR2_e, kR2b_e, kZ1_e, kZ2_e, kEn_e, kMap_e, kMap2_e, kIt1_e, kIt2_t, kIt2_f, kSome_e, kLc_e, kLc2_e, kGc_e, par3_e, kAs2_e, kAs3_e, kAs4_e, kAs5_e, kAs6_e, fnOf2_e, fnV_e, kCV_e, kFld1_e, kFld2_e, kMk_e, kMk2_e, kMt_e, kMt2_e, kMt3_e, gFldE, setFE, metE, insAt_zero, insAt_succ, ob_s, ob_n, then_nx, then_rt, then_bk, then_ct, par2_e, turn_nx, turn_ct, turn_bk, turn_rt, runT_nil, runT_cons, mapT_nil, mapT_cons, finP_nx, finM_rt, finM_nx, addE, subE, negE, cmpE, ixT, truI, truB, at0, at1, at2, at3, List.getElem?_cons_zero, List.getElem?_cons_succ, List.set_cons_zero, List.set_cons_succ, List.length_cons, List.length_nil, Nat.reduceAdd, Nat.reduceLeDiff, if_true, if_false, reduceIte, reduceCtorEq, id_eq, Bool.not_true, Bool.not_false, Bool.false_eq_true, and_self, Int.reduceLE, Int.reduceLT, Int.reduceNeg, decide_true, decide_false, Option.toList_some, Option.toList_none, List.cons_append, List.nil_append, ixRf, tupRf, lenRf, listRf, isLstRf, appRf, revRf, setRf, itemsRf, itemsT, itemsL, zipT, zipRf, allRf, anyRf, sumRf, tupT, slRf, isiE, t2E, lenT, lstAt_zero, lstAt_succ, Option.isSome_some, Nat.reduceLT, Bool.or_true, Bool.or_false, Bool.true_or, Bool.false_or, gNotN, D.isNon, wipeD, isBlE, notBlE, min1Rf, kZa_e, kZb_e, kZc_e, kZd_e, kZe_e, kZa4_e, kZb4_e, kLRa_e, kLRb_e, zip3T, zip4T, eMn, hX, n1, ix_eF0, e1, decide_eq_false c1, nn, n2, e2, decide_eq_false c2]
                exact done _ _ _ (if_neg c1) v0
        by_cases c : 0 < ww
        · have cn : decide (ww.num < 0) = false := decide_eq_false fun z => by have := (num_lt _).mp z; grind
          have hq : axB l hh a ww = some (some ((l - a) / ww, (hh - a) / ww)) := by unfold axB; rw [if_neg hz, if_pos c]
          have kk := key _ (M ++ [.lst [eF ((l - a) / ww), eF ((hh - a) / ww)]]) M.length hq (lz570 M _)
          simp only [↓ev_V, ↓ev_C, ↓ev_O, ↓ev_U, ↓ev_Nil, ↓ev_Cons, ↓ev_L, ↓ev_If, ↓ev_tV, ↓ev_tTr, ↓ev_tAn, ↓ev_tOr, ↓ev_tNo, ↓ev_NotB, ↓ev_AnB, ↓ev_OrB, ↓ev_Tup, ↓ev_Lst, ↓ev_CP, ↓ev_ML, ↓ev_Sli, ↓ev_oN, ↓ev_oS, ↓ev_Ch, ↓ev_gN, ↓ev_gsNil, ↓ev_gsCons, ↓ev_gT, ↓ev_Seq, ↓ev_Asg, ↓ev_Par, ↓ev_Ret, ↓ev_Drop, ↓ev_sIf, ↓ev_Next, ↓ev_Brk, ↓ev_Cont, ↓ev_RetN, ↓ev_Sub, ↓ev_For, ↓ev_body, ↓ev_iE, ↓ev_iR1, ↓ev_iR2, ↓ev_iZ, ↓ev_iEn, ↓ev_item, ↓ev_Lc, ↓ev_Yes, ↓ev_Par3, ↓ev_As2, ↓ev_As4, ↓ev_CV, ↓ev_Fld, ↓ev_Mk, ↓ev_Mk0, ↓ev_Mt, ↓ev_ForM, ↓ev_bodyM, ↓ev_gTmT, ↓ev_gTmR, ↓ev_AsgM, ↓ev_Star, ↓ev_Dc, ↓ev_iRr, ↓ev_iRv, ↓ev_iZ3, ↓ev_iZ4, ↓ev_LR2, kForM_e, kAsgM_e, kSt1_e, kSt2_e, kSt3_e, seqT, seqRf, popRf, insRf, inE, notInE, kDc_e, kRr_e, kRv_e, revT, revL, vOf_e, kO_e, kO2_e, kU_e, kCons_e, kCons2_e, kL_e, kIf_t, kIf_f, kB_e, kTr_e, kTr2_e, kAn_t, kAn_f, kOr_t, kOr_f, kNo_e, kNotB_e, kAnB_t, kAnB_f, kOrB_t, kOrB_f, kTup_e, kLst_e, kCP_e, kD_e, kML_e, kML2_e, kS1_e, kS2_e, kS3_e, kI_e, kCh1_e, kCh2_e, kCh3_t, kCh3_f, kAsg_e, kNx_e, kRet_e, kDrop_e, kSif_t, kSif_f, kSub1_e, kSub2_e, kSub3_e, kNxM_e, kFor_e, kBody_e, kIE_e, kSrc_e, kR1_e, kR2_e, kR2b_e, kZ1_e, kZ2_e, kEn_e, kMap_e, kMap2_e, kIt1_e, kIt2_t, kIt2_f, kSome_e, kLc_e, kLc2_e, kGc_e, par3_e, kAs2_e, kAs3_e, kAs4_e, kAs5_e, kAs6_e, fnOf2_e, fnV_e, kCV_e, kFld1_e, kFld2_e, kMk_e, kMk2_e, kMt_e, kMt2_e, kMt3_e, gFldE, setFE, metE, insAt_zero, insAt_succ, ob_s, ob_n, then_nx, then_rt, then_bk, then_ct, par2_e, turn_nx, turn_ct, turn_bk, turn_rt, runT_nil, runT_cons, mapT_nil, mapT_cons, finP_nx, finM_rt, finM_nx, addE, subE, negE, cmpE, ixT, truI, truB, at0, at1, at2, at3, List.getElem?_cons_zero, List.getElem?_cons_succ, List.set_cons_zero, List.set_cons_succ, List.length_cons, List.length_nil, Nat.reduceAdd, Nat.reduceLeDiff, if_true, if_false, reduceIte, reduceCtorEq, id_eq, Bool.not_true, Bool.not_false, Bool.false_eq_true, and_self, Int.reduceLE, Int.reduceLT, Int.reduceNeg, decide_true, decide_false, Option.toList_some, Option.toList_none, List.cons_append, List.nil_append, ixRf, tupRf, lenRf, listRf, isLstRf, appRf, revRf, setRf, itemsRf, itemsT, itemsL, zipT, zipRf, allRf, anyRf, sumRf, tupT, slRf, isiE, t2E, lenT, lstAt_zero, lstAt_succ, Option.isSome_some, Nat.reduceLT, Bool.or_true, Bool.or_false, Bool.true_or, Bool.false_or, gIsN, gNotN, D.isNon, wipeD, isBlE, notBlE, min1Rf, kZa_e, kZb_e, kZc_e, kZd_e, kZe_e, kZa4_e, kZb4_e, kLRa_e, kLRb_e, zip3T, zip4T, i1, i2, i3, i4, m1, m2, ix_eF0, eqIb, sg, t1, t2, cn, rev57, lz570, List.append_assoc, List.length_append, List.reverse_cons, List.reverse_nil]
          exact kk
        · have cn : decide (ww.num < 0) = true := decide_eq_true ((num_lt _).mpr (by grind))
          have hq : axB l hh a ww = some (some ((hh - a) / ww, (l - a) / ww)) := by unfold axB; rw [if_neg hz, if_neg c]
          have kk := key _ (M ++ [.lst [eF ((l - a) / ww), eF ((hh - a) / ww)], .lst [eF ((hh - a) / ww), eF ((l - a) / ww)]]) (M.length + 1) hq (lz57 M _ 1)
          simp only [↓ev_V, ↓ev_C, ↓ev_O, ↓ev_U, ↓ev_Nil, ↓ev_Cons, ↓ev_L, ↓ev_If, ↓ev_tV, ↓ev_tTr, ↓ev_tAn, ↓ev_tOr, ↓ev_tNo, ↓ev_NotB, ↓ev_AnB, ↓ev_OrB, ↓ev_Tup, ↓ev_Lst, ↓ev_CP, ↓ev_ML, ↓ev_Sli, ↓ev_oN, ↓ev_oS, ↓ev_Ch, ↓ev_gN, ↓ev_gsNil, ↓ev_gsCons, ↓ev_gT, ↓ev_Seq, ↓ev_Asg, ↓ev_Par, ↓ev_Ret, ↓ev_Drop, ↓ev_sIf, ↓ev_Next, ↓ev_Brk, ↓ev_Cont, ↓ev_RetN, ↓ev_Sub, ↓ev_For, ↓ev_body, ↓ev_iE, ↓ev_iR1, ↓ev_iR2, ↓ev_iZ, ↓ev_iEn, ↓ev_item, ↓ev_Lc, ↓ev_Yes, ↓ev_Par3, ↓ev_As2, ↓ev_As4, ↓ev_CV, ↓ev_Fld, ↓ev_Mk, ↓ev_Mk0, ↓ev_Mt, ↓ev_ForM, ↓ev_bodyM, ↓ev_gTmT, ↓ev_gTmR, ↓ev_AsgM, ↓ev_Star, ↓ev_Dc, ↓ev_iRr, ↓ev_iRv, ↓ev_iZ3, ↓ev_iZ4, ↓ev_LR2, kForM_e, kAsgM_e, kSt1_e, kSt2_e, kSt3_e, seqT, seqRf, popRf, insRf, inE, notInE, kDc_e, kRr_e, kRv_e, revT, revL, vOf_e, kO_e, kO2_e, kU_e, kCons_e, kCons2_e, kL_e, kIf_t, kIf_f, kB_e, kTr_e, kTr2_e, kAn_t, kAn_f, kOr_t, kOr_f, kNo_e, kNotB_e, kAnB_t, kAnB_f, kOrB_t, kOrB_f, kTup_e, kLst_e, kCP_e, kD_e, kML_e, kML2_e, kS1_e, kS2_e, kS3_e, kI_e, kCh1_e, kCh2_e, kCh3_t, kCh3_f, kAsg_e, kNx_e, kRet_e, kDrop_e, kSif_t, kSif_f, kSub1_e, kSub2_e, kSub3_e, kNxM_e, kFor_e, kBody_e, kIE_e, kSrc_e, kR1_e, kR2_e, kR2b_e, kZ1_e, kZ2_e, kEn_e, kMap_e, kMap2_e, kIt1_e, kIt2_t, kIt2_f, kSome_e, kLc_e, kLc2_e, kGc_e, par3_e, kAs2_e, kAs3_e, kAs4_e, kAs5_e, kAs6_e, fnOf2_e, fnV_e, kCV_e, kFld1_e, kFld2_e, kMk_e, kMk2_e, kMt_e, kMt2_e, kMt3_e, gFldE, setFE, metE, insAt_zero, insAt_succ, ob_s, ob_n, then_nx, then_rt, then_bk, then_ct, par2_e, turn_nx, turn_ct, turn_bk, turn_rt, runT_nil, runT_cons, mapT_nil, mapT_cons, finP_nx, finM_rt, finM_nx, addE, subE, negE, cmpE, ixT, truI, truB, at0, at1, at2, at3, List.getElem?_cons_zero, List.getElem?_cons_succ, List.set_cons_zero, List.set_cons_succ, List.length_cons, List.length_nil, Nat.reduceAdd, Nat.reduceLeDiff, if_true, if_false, reduceIte, reduceCtorEq, id_eq, Bool.not_true, Bool.not_false, Bool.false_eq_true, and_self, Int.reduceLE, Int.reduceLT, Int.reduceNeg, decide_true, decide_false, Option.toList_some, Option.toList_none, List.cons_append, List.nil_append, ixRf, tupRf, lenRf, listRf, isLstRf, appRf, revRf, setRf, itemsRf, itemsT, itemsL, zipT, zipRf, allRf, anyRf, sumRf, tupT, slRf, isiE, t2E, lenT, lstAt_zero, lstAt_succ, Option.isSome_some, Nat.reduceLT, Bool.or_true, Bool.or_false, Bool.true_or, Bool.false_or, gIsN, gNotN, D.isNon, wipeD, isBlE, notBlE, min1Rf, kZa_e, kZb_e, kZc_e, kZd_e, kZe_e, kZa4_e, kZb4_e, kLRa_e, kLRb_e, zip3T, zip4T, i1, i2, i3, i4, m1, m2, ix_eF0, eqIb, sg, t1, t2, cn, rev57, lz570, List.append_assoc, List.length_append, List.reverse_cons, List.reverse_nil]
          exact kk
    · rintro ρ M ⟨b, es, x4, x5, x6, x7, x8, sz, hf, rfl⟩
      replace hf : foldB (axsB lo hi p w) = some (b, es) := hf
      cases hm : mnB es with
      | none =>
        cases es with
        | nil => exact absurd rfl (foldB_end ne hf)
        | cons x l => cases hm
      | some e =>
        have n2 := lless57 (mnB_rb sz.2 hm) sz.1 (by omega)
        have e2 : decide ((e - b).num < 0) = decide (e < b) := decide_eq_decide.mpr ⟨fun z => by have := (num_lt _).mp z; grind, fun z => (num_lt _).mpr (by grind)⟩
        have out : outB lo hi p w = if e < b then none else some (b, e) := by
          unfold outB
          rw [hf]
          show (match mnB es with | none => none | some e => if e < b then none else some (b, e)) = _
          rw [hm]
        rw [out]
        by_cases c : e < b
        · simp only [↓ev_V, ↓ev_C, ↓ev_O, ↓ev_U, ↓ev_Nil, ↓ev_Cons, ↓ev_L, ↓ev_If, ↓ev_tV, ↓ev_tTr, ↓ev_tAn, ↓ev_tOr, ↓ev_tNo, ↓ev_NotB, ↓ev_AnB, ↓ev_OrB, ↓ev_Tup, ↓ev_Lst, ↓ev_CP, ↓ev_ML, ↓ev_Sli, ↓ev_oN, ↓ev_oS, ↓ev_Ch, ↓ev_gN, ↓ev_gsNil, ↓ev_gsCons, ↓ev_gT, ↓ev_Seq, ↓ev_Asg, ↓ev_Par, ↓ev_Ret, ↓ev_Drop, ↓ev_sIf, ↓ev_Next, ↓ev_Brk, ↓ev_Cont, ↓ev_RetN, ↓ev_Sub, ↓ev_For, ↓ev_body, ↓ev_iE, ↓ev_iR1, ↓ev_iR2, ↓ev_iZ, ↓ev_iEn, ↓ev_item, ↓ev_Lc, ↓ev_Yes, ↓ev_Par3, ↓ev_As2, ↓ev_As4, ↓ev_CV, ↓ev_Fld, ↓ev_Mk, ↓ev_Mk0, ↓ev_Mt, ↓ev_ForM, ↓ev_bodyM, ↓ev_gTmT, ↓ev_gTmR, ↓ev_AsgM, ↓ev_Star, ↓ev_Dc, ↓ev_iRr, ↓ev_iRv, ↓ev_iZ3, ↓ev_iZ4, ↓ev_LR2, kForM_e, kAsgM_e, kSt1_e, kSt2_e, kSt3_e, seqT, seqRf, popRf, insRf, inE, notInE, kDc_e, kRr_e, kRv_e, revT, revL, vOf_e, kO_e, kO2_e, kU_e, kCons_e, kCons2_e, kL_e, kIf_t, kIf_f, kB_e, kTr_e, kTr2_e, kAn_t, kAn_f, kOr_t, kOr_f, kNo_e, kNotB_e, kAnB_t, kAnB_f, kOrB_t, kOrB_f, kTup_e, kLst_e, kCP_e, kD_e, kML_e, kML2_e, kS1_e, kS2_e, kS3_e, kI_e, kCh1_e, kCh2_e, kCh3_t, kCh3_f, kAsg_e, kNx_e, kRet_e, kDrop_e, kSif_t, kSif_f, kSub1_e, kSub2_e, kSub3_e, kNxM_e, kFor_e, kBody_e, kIE_e, kSrc_e, kR1_e, kR2_e, kR2b_e, kZ1_e, kZ2_e, kEn_e, kMap_e, kMap2_e, kIt1_e, kIt2_t, kIt2_f, kSome_e, kLc_e, kLc2_e, kGc_e, par3_e, kAs2_e, kAs3_e, kAs4_e, kAs5_e, kAs6_e, fnOf2_e, fnV_e, kCV_e, kFld1_e, kFld2_e, kMk_e, kMk2_e, kMt_e, kMt2_e, kMt3_e, gFldE, setFE, metE, insAt_zero, insAt_succ, ob_s, ob_n, then_nx, then_rt, then_bk, then_ct, par2_e, turn_nx, turn_ct, turn_bk, turn_rt, runT_nil, runT_cons, mapT_nil, mapT_cons, finP_nx, finM_rt, finM_nx, addE, subE, negE, cmpE, ixT, truI, truB, at0, at1, at2, at3, List.getElem?_cons_zero, List.getElem?_cons_succ, List.set_cons_zero, List.set_cons_succ, List.length_cons, List.length_nil, Nat.reduceAdd, Nat.reduceLeDiff, if_true, if_false, reduceIte, reduceCtorEq, id_eq, Bool.not_true, Bool.not_false, Bool.false_eq_true, and_self, Int.reduceLE, Int.reduceLT, Int.reduceNeg, decide_true, decide_false, Option.toList_some, Option.toList_none, List.cons_append, List.nil_append, ixRf, tupRf, lenRf, listRf, isLstRf, appRf, revRf, setRf, itemsRf, itemsT, itemsL, zipT, zipRf, allRf, anyRf, sumRf, tupT, slRf, isiE, t2E, lenT, lstAt_zero, lstAt_succ, Option.isSome_some, Nat.reduceLT, Bool.or_true, Bool.or_false, Bool.true_or, Bool.false_or, gIsN, gNotN, D.isNon, wipeD, isBlE, notBlE, min1Rf, kZa_e, kZb_e, kZc_e, kZd_e, kZe_e, kZa4_e, kZb4_e, kLRa_e, kLRb_e, zip3T, zip4T, eMn, n2, ix_eF0, e2, decide_eq_true c, if_pos c]
          exact W.ret ⟨_, rfl⟩
        · simp only [↓ev_V, ↓ev_C, ↓ev_O, ↓ev_U, ↓ev_Nil, ↓ev_Cons, ↓ev_L, ↓ev_If, ↓ev_tV, ↓ev_tTr, ↓ev_tAn, ↓ev_tOr, ↓ev_tNo, ↓ev_NotB, ↓ev_AnB, ↓ev_OrB, ↓ev_Tup, ↓ev_Lst, ↓ev_CP, ↓ev_ML, ↓ev_Sli, ↓ev_oN, ↓ev_oS, ↓ev_Ch, ↓ev_gN, ↓ev_gsNil, ↓ev_gsCons, ↓ev_gT, ↓ev_Seq, ↓ev_Asg, ↓ev_Par, ↓ev_Ret, ↓ev_Drop, ↓ev_sIf, ↓ev_Next, ↓ev_Brk, ↓ev_Cont, ↓ev_RetN, ↓ev_Sub, ↓ev_For, ↓ev_body, ↓ev_iE, ↓ev_iR1, ↓ev_iR2, ↓ev_iZ, ↓ev_iEn, ↓ev_item, ↓ev_Lc, ↓ev_Yes, ↓ev_Par3, ↓ev_As2, ↓ev_As4, ↓ev_CV, ↓ev_Fld, ↓ev_Mk, ↓ev_Mk0, ↓ev_Mt, ↓ev_ForM, ↓ev_bodyM, ↓ev_gTmT, ↓ev_gTmR, ↓ev_AsgM, ↓ev_Star, ↓ev_Dc, ↓ev_iRr, ↓ev_iRv, ↓ev_iZ3, ↓ev_iZ4, ↓ev_LR2, kForM_e, kAsgM_e, kSt1_e, kSt2_e, kSt3_e, seqT, seqRf, popRf, insRf, inE, notInE, kDc_e, kRr_e, kRv_e, revT, revL, vOf_e, kO_e, kO2_e, kU_e, kCons_e, kCons2_e, kL_e, kIf_t, kIf_f, kB_e, kTr_e, kTr2_e, kAn_t, kAn_f, kOr_t, kOr_f, kNo_e, kNotB_e, kAnB_t, kAnB_f, kOrB_t, kOrB_f, kTup_e, kLst_e, kCP_e, kD_e, kML_e, kML2_e, kS1_e, kS2_e, kS3_e, kI_e, kCh1_e, kCh2_e, kCh3_t, kCh3_f, kAsg_e, kNx_e, kRet_e, kDrop_e, kSif_t, kSif_f, kSub1_e, kSub2_e, kSub3_e, kNxM_e, kFor_e, kBody_e, kIE_e, kSrc_e, kR1_e, kR2_e, kR2b_e, kZ1_e, kZ2_e, kEn_e, kMap_e, kMap2_e, kIt1_e, kIt2_t, kIt2_f, kSome_e, kLc_e, kLc2_e, kGc_e, par3_e, kAs2_e, kAs3_e, kAs4_e, kAs5_e, kAs6_e, fnOf2_e, fnV_e, kCV_e, kFld1_e, kFld2_e, kMk_e, kMk2_e, kMt_e, kMt2_e, kMt3_e, gFldE, setFE, metE, insAt_zero, insAt_succ, ob_s, ob_n, then_nx, then_rt, then_bk, then_ct, par2_e, turn_nx, turn_ct, turn_bk, turn_rt, runT_nil, runT_cons, mapT_nil, mapT_cons, finP_nx, finM_rt, finM_nx, addE, subE, negE, cmpE, ixT, truI, truB, at0, at1, at2, at3, List.getElem?_cons_zero, List.getElem?_cons_succ, List.set_cons_zero, List.set_cons_succ, List.length_cons, List.length_nil, Nat.reduceAdd, Nat.reduceLeDiff, if_true, if_false, reduceIte, reduceCtorEq, id_eq, Bool.not_true, Bool.not_false, Bool.false_eq_true, and_self, Int.reduceLE, Int.reduceLT, Int.reduceNeg, decide_true, decide_false, Option.toList_some, Option.toList_none, List.cons_append, List.nil_append, ixRf, tupRf, lenRf, listRf, isLstRf, appRf, revRf, setRf, itemsRf, itemsT, itemsL, zipT, zipRf, allRf, anyRf, sumRf, tupT, slRf, isiE, t2E, lenT, lstAt_zero, lstAt_succ, Option.isSome_some, Nat.reduceLT, Bool.or_true, Bool.or_false, Bool.true_or, Bool.false_or, gIsN, gNotN, D.isNon, wipeD, isBlE, notBlE, min1Rf, kZa_e, kZb_e, kZc_e, kZd_e, kZe_e, kZa4_e, kZb4_e, kLRa_e, kLRb_e, zip3T, zip4T, eMn, n2, ix_eF0, e2, decide_eq_false c, if_neg c]
          exact W.ret ⟨_, rfl⟩
    · rintro v M ⟨rfl, hn⟩
      have out : outB lo hi p w = none := by
        unfold outB
        rw [hn]
      rw [out]
      simp only [↓ev_V, ↓ev_C, ↓ev_O, ↓ev_U, ↓ev_Nil, ↓ev_Cons, ↓ev_L, ↓ev_If, ↓ev_tV, ↓ev_tTr, ↓ev_tAn, ↓ev_tOr, ↓ev_tNo, ↓ev_NotB, ↓ev_AnB, ↓ev_OrB, ↓ev_Tup, ↓ev_Lst, ↓ev_CP, ↓ev_ML, ↓ev_Sli, ↓ev_oN, ↓ev_oS, ↓ev_Ch, ↓ev_gN, ↓ev_gsNil, ↓ev_gsCons, ↓ev_gT, ↓ev_Seq, ↓ev_Asg, ↓ev_Par, ↓ev_Ret, ↓ev_Drop, ↓ev_sIf, ↓ev_Next, ↓ev_Brk, ↓ev_Cont, ↓ev_RetN, ↓ev_Sub, ↓ev_For, ↓ev_body, ↓ev_iE, ↓ev_iR1, ↓ev_iR2, ↓ev_iZ, ↓ev_iEn, ↓ev_item, ↓ev_Lc, ↓ev_Yes, ↓ev_Par3, ↓ev_As2, ↓ev_As4, ↓ev_CV, ↓ev_Fld, ↓ev_Mk, ↓ev_Mk0, ↓ev_Mt, ↓ev_ForM, ↓ev_bodyM, ↓ev_gTmT, ↓ev_gTmR, ↓ev_AsgM, ↓ev_Star, ↓ev_Dc, ↓ev_iRr, ↓ev_iRv, ↓ev_iZ3, ↓ev_iZ4, ↓ev_LR2, kForM_e, kAsgM_e, kSt1_e, kSt2_e, kSt3_e, seqT, seqRf, popRf, insRf, inE, notInE, kDc_e, kRr_e, kRv_e, revT, revL, vOf_e, kO_e, kO2_e, kU_e, kCons_e, kCons2_e, kL_e, kIf_t, kIf_f, kB_e, kTr_e, kTr2_e, kAn_t, kAn_f, kOr_t, kOr_f, kNo_e, kNotB_e, kAnB_t, kAnB_f, kOrB_t, kOrB_f, kTup_e, kLst_e, kCP_e, kD_e, kML_e, kML2_e, kS1_e, kS2_e, kS3_e, kI_e, kCh1_e, kCh2_e, kCh3_t, kCh3_f, kAsg_e, kNx_e, kRet_e, kDrop_e, kSif_t, kSif_f, kSub1_e, kSub2_e, kSub3_e, kNxM_e, kFor_e, kBody_e, kIE_e, kSrc_e, kR1_e, kR2_e, kR2b_e, kZ1_e, kZ2_e, kEn_e, kMap_e, kMap2_e, kIt1_e, kIt2_t, kIt2_f, kSome_e, kLc_e, kLc2_e, kGc_e, par3_e, kAs2_e, kAs3_e, kAs4_e, kAs5_e, kAs6_e, fnOf2_e, fnV_e, kCV_e, kFld1_e, kFld2_e, kMk_e, kMk2_e, kMt_e, kMt2_e, kMt3_e, gFldE, setFE, metE, insAt_zero, insAt_succ, ob_s, ob_n, then_nx, then_rt, then_bk, then_ct, par2_e, turn_nx, turn_ct, turn_bk, turn_rt, runT_nil, runT_cons, mapT_nil, mapT_cons, finP_nx, finM_rt, finM_nx, addE, subE, negE, cmpE, ixT, truI, truB, at0, at1, at2, at3, List.getElem?_cons_zero, List.getElem?_cons_succ, List.set_cons_zero, List.set_cons_succ, List.length_cons, List.length_nil, Nat.reduceAdd, Nat.reduceLeDiff, if_true, if_false, reduceIte, reduceCtorEq, id_eq, Bool.not_true, Bool.not_false, Bool.false_eq_true, and_self, Int.reduceLE, Int.reduceLT, Int.reduceNeg, decide_true, decide_false, Option.toList_some, Option.toList_none, List.cons_append, List.nil_append, ixRf, tupRf, lenRf, listRf, isLstRf, appRf, revRf, setRf, itemsRf, itemsT, itemsL, zipT, zipRf, allRf, anyRf, sumRf, tupT, slRf, isiE, t2E, lenT, lstAt_zero, lstAt_succ, Option.isSome_some, Nat.reduceLT, Bool.or_true, Bool.or_false, Bool.true_or, Bool.false_or, gIsN, gNotN, D.isNon, wipeD, isBlE, notBlE, min1Rf, kZa_e, kZb_e, kZc_e, kZd_e, kZe_e, kZa4_e, kZb4_e, kLRa_e, kLRb_e, zip3T, zip4T]
      exact W.ret ⟨M, rfl⟩
  rw [e__law_span _ _ lo0]
  obtain ⟨y, e, M, rfl⟩ := fin
  rw [e, ob_s]
  exact finP_rt _ _ (by cases outB lo hi p w <;> rfl)
/- the law -/
theorem outB_rb {m n k o : Nat} {lo hi p w : P3} (hlo : lo.B m) (hhi : hi.B n) (hp : p.B k) (hw : w.B o) (hb : m + n + k + o ≤ 1800) {s : Rat × Rat} (h : outB lo hi p w = some s) : Rb 1900 s.1 ∧ Rb 1900 s.2 := by
  have all : ∀ a ∈ axsB lo hi p w, ∀ q, a = some (some q) → Rb (m + n + k + 1 + o) q.1 ∧ Rb (m + n + k + 1 + o) q.2 := fun a ha q hq => by
    unfold axsB at ha
    simp only [List.mem_cons, List.not_mem_nil, or_false] at ha
    have ax : ∀ l h a w : Rat, Rb m l → Rb n h → Rb k a → Rb o w → axB l h a w = some (some q) → Rb (m + n + k + 1 + o) q.1 ∧ Rb (m + n + k + 1 + o) q.2 := fun l h a w h1 h2 h3 h4 e => axB_sz (h1.mono (show m ≤ m + n by omega)) (h2.mono (show n ≤ m + n by omega)) h3 h4 q e
    rcases ha with rfl | rfl | rfl
    · exact ax _ _ _ _ hlo.1 hhi.1 hp.1 hw.1 hq
    · exact ax _ _ _ _ hlo.2.1 hhi.2.1 hp.2.1 hw.2.1 hq
    · exact ax _ _ _ _ hlo.2.2 hhi.2.2 hp.2.2 hw.2.2 hq
  have fold : ∀ (l : List (Option (Option (Rat × Rat)))) (s s' : Rat × List Rat), (∀ a ∈ l, ∀ q, a = some (some q) → Rb (m + n + k + 1 + o) q.1 ∧ Rb (m + n + k + 1 + o) q.2) → SzB (m + n + k + 1 + o) s → l.foldl (fun s a => stB a s) (some s) = some s' → SzB (m + n + k + 1 + o) s' := by
    intro l
    induction l with
    | nil => intro s s' _ hs e; cases e; exact hs
    | cons a l ih =>
      intro s s' ha hs e
      rw [List.foldl_cons] at e
      cases h : stB a (some s) with
      | none => rw [h, foldB_none] at e; cases e
      | some t =>
        rw [h] at e
        exact ih t s' (fun b hb => ha b (List.mem_cons_of_mem _ hb)) (stB_sz hs (ha a List.mem_cons_self) h) e
  unfold outB at h
  split at h
  · cases h
  · next t ht =>
    have sz := fold _ _ _ all ⟨by exact ⟨by unfold Bt; exact Nat.two_pow_pos _, by unfold Bt; exact Nat.one_lt_two_pow (by omega)⟩, fun _ h => (by cases h)⟩ ht
    split at h
    · cases h
    · next e he =>
      split at h
      · cases h
      · cases h
        exact ⟨sz.1.mono (by omega), (mnB_rb sz.2 he).mono (by omega)⟩
theorem neText {x : Str} (h : SmallS x) (M : Mem) : gNe (.str x) (.str x) M = some (.bl false, M) := by
  have ok := h.ok
  have sh : SeqAt.shaped (.str x) = true := by
    unfold SeqAt.shaped
    rw [ok]
    rfl
  rw [show gNe = gEqB true from rfl, eqD (x := .str x) (y := .str x) (p := .str x) (q := .str x) rfl rfl sh sh]
  have : PyData.eqv (.str x) (.str x) = true := by simp [PyData.eqv]
  rw [this]
  rfl
theorem text57 {o : Option (Rat × Rat)} (h : ∀ s, o = some s → Rb 1900 s.1 ∧ Rb 1900 s.2) : ∃ x : Str, SmallS x ∧ ∀ M, bRepr [eOut o] M = some (.str x, M) := by
  cases o with
  | none =>
    refine ⟨"None", small_str "None" (by decide), fun M => ?_⟩
    unfold bRepr eOut
    rfl
  | some s =>
    obtain ⟨h1, h2⟩ := h s rfl
    exact ⟨_, small_FF s.1 s.2, fun M => repr_FF h1 h2 (by decide) (by decide) M⟩
theorem law_true (ns : List Int) (hl : ns.length ≤ 63) : ∃ M, m_law [.rol (ns.map D.int)] [] = some (.bl true, M) := by
  have hB : (B57 ns).all (Cell.lo (B57 ns).length) = true := by
    have l1 : ∀ (n : Nat) (l : List Int), Cell.lo n (.lst (l.map D.int)) = true := fun n l => los_map _ _ _ fun _ _ => rfl
    unfold B57
    rw [List.all_cons, List.all_cons, List.all_cons, l1, l1]
    rfl
  have B3 : (B57 ns).length + 2 = 5 := rfl
  have ho := ones57_pos ns
  suffices W (b_law [some (.rol (ns.map D.int)), none, none, none, none] []) (fun y => ∃ M, y = (.rt (.bl true), M)) by
    obtain ⟨y, e, M, rfl⟩ := this
    exact ⟨M, by rw [e_law, e]; rfl⟩
  unfold b_law
  simp only [↓ev_V, ↓ev_C, ↓ev_O, ↓ev_U, ↓ev_Nil, ↓ev_Cons, ↓ev_L, ↓ev_If, ↓ev_tV, ↓ev_tTr, ↓ev_tAn, ↓ev_tOr, ↓ev_tNo, ↓ev_NotB, ↓ev_AnB, ↓ev_OrB, ↓ev_Tup, ↓ev_Lst, ↓ev_CP, ↓ev_ML, ↓ev_Sli, ↓ev_oN, ↓ev_oS, ↓ev_Ch, ↓ev_gN, ↓ev_gsNil, ↓ev_gsCons, ↓ev_gT, ↓ev_Seq, ↓ev_Asg, ↓ev_Par, ↓ev_Ret, ↓ev_Drop, ↓ev_sIf, ↓ev_Next, ↓ev_Brk, ↓ev_Cont, ↓ev_RetN, ↓ev_Sub, ↓ev_For, ↓ev_body, ↓ev_iE, ↓ev_iR1, ↓ev_iR2, ↓ev_iZ, ↓ev_iEn, ↓ev_item, ↓ev_Lc, ↓ev_Yes, ↓ev_Par3, ↓ev_As2, ↓ev_As4, ↓ev_CV, ↓ev_Fld, ↓ev_Mk, ↓ev_Mk0, ↓ev_Mt, ↓ev_ForM, ↓ev_bodyM, ↓ev_gTmT, ↓ev_gTmR, ↓ev_AsgM, ↓ev_Star, ↓ev_Dc, ↓ev_iRr, ↓ev_iRv, ↓ev_iZ3, ↓ev_iZ4, ↓ev_LR2, kForM_e, kAsgM_e, kSt1_e, kSt2_e, kSt3_e, seqT, seqRf, popRf, insRf, inE, notInE, kDc_e, kRr_e, kRv_e, revT, revL, vOf_e, kO_e, kO2_e, kU_e, kCons_e, kCons2_e, kL_e, kIf_t, kIf_f, kB_e, kTr_e, kTr2_e, kAn_t, kAn_f, kOr_t, kOr_f, kNo_e, kNotB_e, kAnB_t, kAnB_f, kOrB_t, kOrB_f, kTup_e, kLst_e, kCP_e, kD_e, kML_e, kML2_e, kS1_e, kS2_e, kS3_e, kI_e, kCh1_e, kCh2_e, kCh3_t, kCh3_f, kAsg_e, kNx_e, kRet_e, kDrop_e, kSif_t, kSif_f, kSub1_e, kSub2_e, kSub3_e, kNxM_e, kFor_e, kBody_e, kIE_e, kSrc_e, kR1_e, kR2_e, kR2b_e, kZ1_e, kZ2_e, kEn_e, kMap_e, kMap2_e, kIt1_e, kIt2_t, kIt2_f, kSome_e, kLc_e, kLc2_e, kGc_e, par3_e, kAs2_e, kAs3_e, kAs4_e, kAs5_e, kAs6_e, fnOf2_e, fnV_e, kCV_e, kFld1_e, kFld2_e, kMk_e, kMk2_e, kMt_e, kMt2_e, kMt3_e, gFldE, setFE, metE, insAt_zero, insAt_succ, ob_s, ob_n, then_nx, then_rt, then_bk, then_ct, par2_e, turn_ct, turn_bk, turn_rt, mapT_nil, mapT_cons, finP_nx, finM_rt, finM_nx, addE, subE, negE, cmpE, ixT, truI, truB, at0, at1, at2, at3, List.getElem?_cons_zero, List.getElem?_cons_succ, List.set_cons_zero, List.set_cons_succ, List.length_cons, List.length_nil, Nat.reduceAdd, Nat.reduceLeDiff, if_true, if_false, reduceIte, reduceCtorEq, id_eq, Bool.not_true, Bool.not_false, Bool.false_eq_true, and_self, Int.reduceLE, Int.reduceLT, Int.reduceNeg, decide_true, decide_false, Option.toList_some, Option.toList_none, List.cons_append, List.nil_append, ixRf, tupRf, lenRf, listRf, isLstRf, appRf, revRf, setRf, itemsRf, itemsT, itemsL, zipT, zipRf, allRf, anyRf, sumRf, tupT, slRf, isiE, t2E, lenT, lstAt_zero, lstAt_succ, Option.isSome_some, Nat.reduceLT, Bool.or_true, Bool.or_false, Bool.true_or, Bool.false_or, gIsN, gNotN, D.isNon, wipeD, isBlE, notBlE, min1Rf, kZa_e, kZb_e, kZc_e, kZd_e, kZe_e, kZa4_e, kZb4_e, kLRa_e, kLRb_e, zip3T, zip4T, deck57 ns hl]
  refine W.run (fun j ρ M => ∃ d x2 x3 x4, D57.Ok (100000 - 40 * j) d ∧ ρ = [some (.rol (ns.map D.int)), some (.rf 5), x2, x3, x4] ∧ M = M57 (B57 ns) (ones57 ns) d) ⟨d57 ns, none, none, none, d57_ok ns hl, rfl, rfl⟩ (fun _ _ _ _ => trivial) ?_ ?_
  · rintro j dd hd ρ M ⟨d, x2, x3, x4, hok, rfl, rfl⟩
    obtain ⟨hj, rfl⟩ := upto_get hd
    replace hj : j < 5 := hj
    have hok' : D57.Ok ((100000 - 40 * (j + 1)) + 8 + 20 + 12) d := ⟨hok.1, hok.2.1, by have := hok.2.2; omega⟩
    obtain ⟨lo, hi, d1, o1, bl, bh, e1⟩ := flat57 hB ho hok' (X := []) rfl
    obtain ⟨p, w, d2, o2, bp, bw, ne, e2⟩ := rayby57 hB ho o1 bl bh (X := []) rfl
    rw [B3, List.append_nil, List.append_nil] at e1 e2
    have s1 := stretchB_e bl bh bp bw ne (by decide)
    have s2 := span57 bl bh bp bw ne (by decide)
    obtain ⟨x, sx, tx⟩ := text57 (o := outB lo hi p w) fun s hs => outB_rb bl bh bp bw (by decide) hs
    simp only [↓ev_V, ↓ev_C, ↓ev_O, ↓ev_U, ↓ev_Nil, ↓ev_Cons, ↓ev_L, ↓ev_If, ↓ev_tV, ↓ev_tTr, ↓ev_tAn, ↓ev_tOr, ↓ev_tNo, ↓ev_NotB, ↓ev_AnB, ↓ev_OrB, ↓ev_Tup, ↓ev_Lst, ↓ev_CP, ↓ev_ML, ↓ev_Sli, ↓ev_oN, ↓ev_oS, ↓ev_Ch, ↓ev_gN, ↓ev_gsNil, ↓ev_gsCons, ↓ev_gT, ↓ev_Seq, ↓ev_Asg, ↓ev_Par, ↓ev_Ret, ↓ev_Drop, ↓ev_sIf, ↓ev_Next, ↓ev_Brk, ↓ev_Cont, ↓ev_RetN, ↓ev_Sub, ↓ev_For, ↓ev_body, ↓ev_iE, ↓ev_iR1, ↓ev_iR2, ↓ev_iZ, ↓ev_iEn, ↓ev_item, ↓ev_Lc, ↓ev_Yes, ↓ev_Par3, ↓ev_As2, ↓ev_As4, ↓ev_CV, ↓ev_Fld, ↓ev_Mk, ↓ev_Mk0, ↓ev_Mt, ↓ev_ForM, ↓ev_bodyM, ↓ev_gTmT, ↓ev_gTmR, ↓ev_AsgM, ↓ev_Star, ↓ev_Dc, ↓ev_iRr, ↓ev_iRv, ↓ev_iZ3, ↓ev_iZ4, ↓ev_LR2, kForM_e, kAsgM_e, kSt1_e, kSt2_e, kSt3_e, seqT, seqRf, popRf, insRf, inE, notInE, kDc_e, kRr_e, kRv_e, revT, revL, vOf_e, kO_e, kO2_e, kU_e, kCons_e, kCons2_e, kL_e, kIf_t, kIf_f, kB_e, kTr_e, kTr2_e, kAn_t, kAn_f, kOr_t, kOr_f, kNo_e, kNotB_e, kAnB_t, kAnB_f, kOrB_t, kOrB_f, kTup_e, kLst_e, kCP_e, kD_e, kML_e, kML2_e, kS1_e, kS2_e, kS3_e, kI_e, kCh1_e, kCh2_e, kCh3_t, kCh3_f, kAsg_e, kNx_e, kRet_e, kDrop_e, kSif_t, kSif_f, kSub1_e, kSub2_e, kSub3_e, kNxM_e, kFor_e, kBody_e, kIE_e, kSrc_e, kR1_e, kR2_e, kR2b_e, kZ1_e, kZ2_e, kEn_e, kMap_e, kMap2_e, kIt1_e, kIt2_t, kIt2_f, kSome_e, kLc_e, kLc2_e, kGc_e, par3_e, kAs2_e, kAs3_e, kAs4_e, kAs5_e, kAs6_e, fnOf2_e, fnV_e, kCV_e, kFld1_e, kFld2_e, kMk_e, kMk2_e, kMt_e, kMt2_e, kMt3_e, gFldE, setFE, metE, insAt_zero, insAt_succ, ob_s, ob_n, then_nx, then_rt, then_bk, then_ct, par2_e, turn_nx, turn_ct, turn_bk, turn_rt, runT_nil, runT_cons, mapT_nil, mapT_cons, finP_nx, finM_rt, finM_nx, addE, subE, negE, cmpE, ixT, truI, truB, at0, at1, at2, at3, List.getElem?_cons_zero, List.getElem?_cons_succ, List.set_cons_zero, List.set_cons_succ, List.length_cons, List.length_nil, Nat.reduceAdd, Nat.reduceLeDiff, if_true, if_false, reduceIte, reduceCtorEq, id_eq, Bool.not_true, Bool.not_false, Bool.false_eq_true, and_self, Int.reduceLE, Int.reduceLT, Int.reduceNeg, decide_true, decide_false, Option.toList_some, Option.toList_none, List.cons_append, List.nil_append, ixRf, tupRf, lenRf, listRf, isLstRf, appRf, revRf, setRf, itemsRf, itemsT, itemsL, zipT, zipRf, allRf, anyRf, sumRf, tupT, slRf, isiE, t2E, lenT, lstAt_zero, lstAt_succ, Option.isSome_some, Nat.reduceLT, Bool.or_true, Bool.or_false, Bool.true_or, Bool.false_or, gIsN, gNotN, D.isNon, wipeD, isBlE, notBlE, min1Rf, kZa_e, kZb_e, kZc_e, kZd_e, kZe_e, kZa4_e, kZb4_e, kLRa_e, kLRb_e, zip3T, zip4T, e1, e2, s1, s2, tx, neText sx]
    exact W.ret ⟨_, _, rfl, d2, _, _, _, ⟨o2.1, o2.2.1, by have := o2.2.2; omega⟩, rfl, rfl⟩
  · rintro ρ M ⟨d, x2, x3, x4, hok, rfl, rfl⟩
    replace hok : D57.Ok (99000 + 4 + 6) d := ⟨hok.1, hok.2.1, by have : d.c + (100000 - 40 * 5) ≤ 100000 := hok.2.2; omega⟩
    obtain ⟨x, y, z, d1, o1, hx, hy, hz, e1⟩ := point57 hB ho hok (far := 6) (by decide) (by decide) (X := []) rfl
    obtain ⟨w, d2, o2, bw, ne, e2⟩ := way57 hB ho o1 (X := []) rfl
    rw [B3, List.append_nil, List.append_nil] at e1 e2
    have er : m__law_ray [.rf 5] (M57 (B57 ns) (ones57 ns) d) = some (.tup [eP57 x y z, eP w], M57 (B57 ns) (ones57 ns) d2) := by
      rw [e__law_ray]
      unfold b__law_ray
      simp only [↓ev_V, ↓ev_C, ↓ev_O, ↓ev_U, ↓ev_Nil, ↓ev_Cons, ↓ev_L, ↓ev_If, ↓ev_tV, ↓ev_tTr, ↓ev_tAn, ↓ev_tOr, ↓ev_tNo, ↓ev_NotB, ↓ev_AnB, ↓ev_OrB, ↓ev_Tup, ↓ev_Lst, ↓ev_CP, ↓ev_ML, ↓ev_Sli, ↓ev_oN, ↓ev_oS, ↓ev_Ch, ↓ev_gN, ↓ev_gsNil, ↓ev_gsCons, ↓ev_gT, ↓ev_Seq, ↓ev_Asg, ↓ev_Par, ↓ev_Ret, ↓ev_Drop, ↓ev_sIf, ↓ev_Next, ↓ev_Brk, ↓ev_Cont, ↓ev_RetN, ↓ev_Sub, ↓ev_For, ↓ev_body, ↓ev_iE, ↓ev_iR1, ↓ev_iR2, ↓ev_iZ, ↓ev_iEn, ↓ev_item, ↓ev_Lc, ↓ev_Yes, ↓ev_Par3, ↓ev_As2, ↓ev_As4, ↓ev_CV, ↓ev_Fld, ↓ev_Mk, ↓ev_Mk0, ↓ev_Mt, ↓ev_ForM, ↓ev_bodyM, ↓ev_gTmT, ↓ev_gTmR, ↓ev_AsgM, ↓ev_Star, ↓ev_Dc, ↓ev_iRr, ↓ev_iRv, ↓ev_iZ3, ↓ev_iZ4, ↓ev_LR2, kForM_e, kAsgM_e, kSt1_e, kSt2_e, kSt3_e, seqT, seqRf, popRf, insRf, inE, notInE, kDc_e, kRr_e, kRv_e, revT, revL, vOf_e, kO_e, kO2_e, kU_e, kCons_e, kCons2_e, kL_e, kIf_t, kIf_f, kB_e, kTr_e, kTr2_e, kAn_t, kAn_f, kOr_t, kOr_f, kNo_e, kNotB_e, kAnB_t, kAnB_f, kOrB_t, kOrB_f, kTup_e, kLst_e, kCP_e, kD_e, kML_e, kML2_e, kS1_e, kS2_e, kS3_e, kI_e, kCh1_e, kCh2_e, kCh3_t, kCh3_f, kAsg_e, kNx_e, kRet_e, kDrop_e, kSif_t, kSif_f, kSub1_e, kSub2_e, kSub3_e, kNxM_e, kFor_e, kBody_e, kIE_e, kSrc_e, kR1_e, kR2_e, kR2b_e, kZ1_e, kZ2_e, kEn_e, kMap_e, kMap2_e, kIt1_e, kIt2_t, kIt2_f, kSome_e, kLc_e, kLc2_e, kGc_e, par3_e, kAs2_e, kAs3_e, kAs4_e, kAs5_e, kAs6_e, fnOf2_e, fnV_e, kCV_e, kFld1_e, kFld2_e, kMk_e, kMk2_e, kMt_e, kMt2_e, kMt3_e, gFldE, setFE, metE, insAt_zero, insAt_succ, ob_s, ob_n, then_nx, then_rt, then_bk, then_ct, par2_e, turn_nx, turn_ct, turn_bk, turn_rt, runT_nil, runT_cons, mapT_nil, mapT_cons, finP_nx, finM_rt, finM_nx, addE, subE, negE, cmpE, ixT, truI, truB, at0, at1, at2, at3, List.getElem?_cons_zero, List.getElem?_cons_succ, List.set_cons_zero, List.set_cons_succ, List.length_cons, List.length_nil, Nat.reduceAdd, Nat.reduceLeDiff, if_true, if_false, reduceIte, reduceCtorEq, id_eq, Bool.not_true, Bool.not_false, Bool.false_eq_true, and_self, Int.reduceLE, Int.reduceLT, Int.reduceNeg, decide_true, decide_false, Option.toList_some, Option.toList_none, List.cons_append, List.nil_append, ixRf, tupRf, lenRf, listRf, isLstRf, appRf, revRf, setRf, itemsRf, itemsT, itemsL, zipT, zipRf, allRf, anyRf, sumRf, tupT, slRf, isiE, t2E, lenT, lstAt_zero, lstAt_succ, Option.isSome_some, Nat.reduceLT, Bool.or_true, Bool.or_false, Bool.true_or, Bool.false_or, gIsN, gNotN, D.isNon, wipeD, isBlE, notBlE, min1Rf, kZa_e, kZb_e, kZc_e, kZd_e, kZe_e, kZa4_e, kZb4_e, kLRa_e, kLRb_e, zip3T, zip4T, e1, e2]
      have g := gc570 (ones := ones57 ns) hB (X := []) rfl d2 (v := .tup [eP57 x y z, eP w]) rfl
      rw [List.append_nil] at g
      exact congrArg some g
    have em : ∀ v : D, D.los 0 [.tup [], v] = true → m_box_stretch [.tup [], v] = some .non := fun v hv => by
      rw [e_box_stretch _ _ hv]
      unfold b_box_stretch
      have ee : ∀ M, gEq (.tup []) (.tup []) M = some (.bl true, M) := fun M => rfl
      simp only [↓ev_V, ↓ev_C, ↓ev_O, ↓ev_U, ↓ev_Nil, ↓ev_Cons, ↓ev_L, ↓ev_If, ↓ev_tV, ↓ev_tTr, ↓ev_tAn, ↓ev_tOr, ↓ev_tNo, ↓ev_NotB, ↓ev_AnB, ↓ev_OrB, ↓ev_Tup, ↓ev_Lst, ↓ev_CP, ↓ev_ML, ↓ev_Sli, ↓ev_oN, ↓ev_oS, ↓ev_Ch, ↓ev_gN, ↓ev_gsNil, ↓ev_gsCons, ↓ev_gT, ↓ev_Seq, ↓ev_Asg, ↓ev_Par, ↓ev_Ret, ↓ev_Drop, ↓ev_sIf, ↓ev_Next, ↓ev_Brk, ↓ev_Cont, ↓ev_RetN, ↓ev_Sub, ↓ev_For, ↓ev_body, ↓ev_iE, ↓ev_iR1, ↓ev_iR2, ↓ev_iZ, ↓ev_iEn, ↓ev_item, ↓ev_Lc, ↓ev_Yes, ↓ev_Par3, ↓ev_As2, ↓ev_As4, ↓ev_CV, ↓ev_Fld, ↓ev_Mk, ↓ev_Mk0, ↓ev_Mt, ↓ev_ForM, ↓ev_bodyM, ↓ev_gTmT, ↓ev_gTmR, ↓ev_AsgM, ↓ev_Star, ↓ev_Dc, ↓ev_iRr, ↓ev_iRv, ↓ev_iZ3, ↓ev_iZ4, ↓ev_LR2, kForM_e, kAsgM_e, kSt1_e, kSt2_e, kSt3_e, seqT, seqRf, popRf, insRf, inE, notInE, kDc_e, kRr_e, kRv_e, revT, revL, vOf_e, kO_e, kO2_e, kU_e, kCons_e, kCons2_e, kL_e, kIf_t, kIf_f, kB_e, kTr_e, kTr2_e, kAn_t, kAn_f, kOr_t, kOr_f, kNo_e, kNotB_e, kAnB_t, kAnB_f, kOrB_t, kOrB_f, kTup_e, kLst_e, kCP_e, kD_e, kML_e, kML2_e, kS1_e, kS2_e, kS3_e, kI_e, kCh1_e, kCh2_e, kCh3_t, kCh3_f, kAsg_e, kNx_e, kRet_e, kDrop_e, kSif_t, kSif_f, kSub1_e, kSub2_e, kSub3_e, kNxM_e, kFor_e, kBody_e, kIE_e, kSrc_e, kR1_e, kR2_e, kR2b_e, kZ1_e, kZ2_e, kEn_e, kMap_e, kMap2_e, kIt1_e, kIt2_t, kIt2_f, kSome_e, kLc_e, kLc2_e, kGc_e, par3_e, kAs2_e, kAs3_e, kAs4_e, kAs5_e, kAs6_e, fnOf2_e, fnV_e, kCV_e, kFld1_e, kFld2_e, kMk_e, kMk2_e, kMt_e, kMt2_e, kMt3_e, gFldE, setFE, metE, insAt_zero, insAt_succ, ob_s, ob_n, then_nx, then_rt, then_bk, then_ct, par2_e, turn_nx, turn_ct, turn_bk, turn_rt, runT_nil, runT_cons, mapT_nil, mapT_cons, finP_nx, finM_rt, finM_nx, addE, subE, negE, cmpE, ixT, truI, truB, at0, at1, at2, at3, List.getElem?_cons_zero, List.getElem?_cons_succ, List.set_cons_zero, List.set_cons_succ, List.length_cons, List.length_nil, Nat.reduceAdd, Nat.reduceLeDiff, if_true, if_false, reduceIte, reduceCtorEq, id_eq, Bool.not_true, Bool.not_false, Bool.false_eq_true, and_self, Int.reduceLE, Int.reduceLT, Int.reduceNeg, decide_true, decide_false, Option.toList_some, Option.toList_none, List.cons_append, List.nil_append, ixRf, tupRf, lenRf, listRf, isLstRf, appRf, revRf, setRf, itemsRf, itemsT, itemsL, zipT, zipRf, allRf, anyRf, sumRf, tupT, slRf, isiE, t2E, lenT, lstAt_zero, lstAt_succ, Option.isSome_some, Nat.reduceLT, Bool.or_true, Bool.or_false, Bool.true_or, Bool.false_or, gIsN, gNotN, D.isNon, wipeD, isBlE, notBlE, min1Rf, kZa_e, kZb_e, kZc_e, kZd_e, kZe_e, kZa4_e, kZb4_e, kLRa_e, kLRb_e, zip3T, zip4T, ee]
      exact finP_rt _ _ rfl
    simp only [↓ev_V, ↓ev_C, ↓ev_O, ↓ev_U, ↓ev_Nil, ↓ev_Cons, ↓ev_L, ↓ev_If, ↓ev_tV, ↓ev_tTr, ↓ev_tAn, ↓ev_tOr, ↓ev_tNo, ↓ev_NotB, ↓ev_AnB, ↓ev_OrB, ↓ev_Tup, ↓ev_Lst, ↓ev_CP, ↓ev_ML, ↓ev_Sli, ↓ev_oN, ↓ev_oS, ↓ev_Ch, ↓ev_gN, ↓ev_gsNil, ↓ev_gsCons, ↓ev_gT, ↓ev_Seq, ↓ev_Asg, ↓ev_Par, ↓ev_Ret, ↓ev_Drop, ↓ev_sIf, ↓ev_Next, ↓ev_Brk, ↓ev_Cont, ↓ev_RetN, ↓ev_Sub, ↓ev_For, ↓ev_body, ↓ev_iE, ↓ev_iR1, ↓ev_iR2, ↓ev_iZ, ↓ev_iEn, ↓ev_item, ↓ev_Lc, ↓ev_Yes, ↓ev_Par3, ↓ev_As2, ↓ev_As4, ↓ev_CV, ↓ev_Fld, ↓ev_Mk, ↓ev_Mk0, ↓ev_Mt, ↓ev_ForM, ↓ev_bodyM, ↓ev_gTmT, ↓ev_gTmR, ↓ev_AsgM, ↓ev_Star, ↓ev_Dc, ↓ev_iRr, ↓ev_iRv, ↓ev_iZ3, ↓ev_iZ4, ↓ev_LR2, kForM_e, kAsgM_e, kSt1_e, kSt2_e, kSt3_e, seqT, seqRf, popRf, insRf, inE, notInE, kDc_e, kRr_e, kRv_e, revT, revL, vOf_e, kO_e, kO2_e, kU_e, kCons_e, kCons2_e, kL_e, kIf_t, kIf_f, kB_e, kTr_e, kTr2_e, kAn_t, kAn_f, kOr_t, kOr_f, kNo_e, kNotB_e, kAnB_t, kAnB_f, kOrB_t, kOrB_f, kTup_e, kLst_e, kCP_e, kD_e, kML_e, kML2_e, kS1_e, kS2_e, kS3_e, kI_e, kCh1_e, kCh2_e, kCh3_t, kCh3_f, kAsg_e, kNx_e, kRet_e, kDrop_e, kSif_t, kSif_f, kSub1_e, kSub2_e, kSub3_e, kNxM_e, kFor_e, kBody_e, kIE_e, kSrc_e, kR1_e, kR2_e, kR2b_e, kZ1_e, kZ2_e, kEn_e, kMap_e, kMap2_e, kIt1_e, kIt2_t, kIt2_f, kSome_e, kLc_e, kLc2_e, kGc_e, par3_e, kAs2_e, kAs3_e, kAs4_e, kAs5_e, kAs6_e, fnOf2_e, fnV_e, kCV_e, kFld1_e, kFld2_e, kMk_e, kMk2_e, kMt_e, kMt2_e, kMt3_e, gFldE, setFE, metE, insAt_zero, insAt_succ, ob_s, ob_n, then_nx, then_rt, then_bk, then_ct, par2_e, turn_nx, turn_ct, turn_bk, turn_rt, runT_nil, runT_cons, mapT_nil, mapT_cons, finP_nx, finM_rt, finM_nx, addE, subE, negE, cmpE, ixT, truI, truB, at0, at1, at2, at3, List.getElem?_cons_zero, List.getElem?_cons_succ, List.set_cons_zero, List.set_cons_succ, List.length_cons, List.length_nil, Nat.reduceAdd, Nat.reduceLeDiff, if_true, if_false, reduceIte, reduceCtorEq, id_eq, Bool.not_true, Bool.not_false, Bool.false_eq_true, and_self, Int.reduceLE, Int.reduceLT, Int.reduceNeg, decide_true, decide_false, Option.toList_some, Option.toList_none, List.cons_append, List.nil_append, ixRf, tupRf, lenRf, listRf, isLstRf, appRf, revRf, setRf, itemsRf, itemsT, itemsL, zipT, zipRf, allRf, anyRf, sumRf, tupT, slRf, isiE, t2E, lenT, lstAt_zero, lstAt_succ, Option.isSome_some, Nat.reduceLT, Bool.or_true, Bool.or_false, Bool.true_or, Bool.false_or, gIsN, gNotN, D.isNon, wipeD, isBlE, notBlE, min1Rf, kZa_e, kZb_e, kZc_e, kZd_e, kZe_e, kZa4_e, kZb4_e, kLRa_e, kLRb_e, zip3T, zip4T, er, em _ (show D.los 0 [.tup [], .tup [eP57 x y z, eP w]] = true from rfl)]
    exact W.ret ⟨_, rfl⟩

def topS (i : Nat) : Stmt := PySem.Challenge.pw_scenetongue_k57_boxes_along_rays.main.body.getD i (.Pass ⟨0, 0, 0, 0⟩)
abbrev s_frac : Stmt := topS 2
abbrev nm_frac : List Str := ["above", "below", "shared", "rest"]
theorem sc_frac : FnScope nm_frac ["above", "below"] (defScope s_frac) := ⟨rfl, rfl, rfl, by decide +kernel, rfl, by decide +kernel, by decide +kernel⟩
abbrev s_minus : Stmt := topS 3
abbrev nm_minus : List Str := ["one", "other"]
theorem sc_minus : FnScope nm_minus ["one", "other"] (defScope s_minus) := ⟨rfl, rfl, rfl, by decide +kernel, rfl, by decide +kernel, by decide +kernel⟩
abbrev s_over : Stmt := topS 4
abbrev nm_over : List Str := ["one", "other"]
theorem sc_over : FnScope nm_over ["one", "other"] (defScope s_over) := ⟨rfl, rfl, rfl, by decide +kernel, rfl, by decide +kernel, by decide +kernel⟩
abbrev s_sign : Stmt := topS 5
abbrev nm_sign : List Str := ["one"]
theorem sc_sign : FnScope nm_sign ["one"] (defScope s_sign) := ⟨rfl, rfl, rfl, by decide +kernel, rfl, by decide +kernel, by decide +kernel⟩
abbrev s_utmost : Stmt := topS 7
abbrev nm_utmost : List Str := ["numbers", "side", "found", "number"]
theorem sc_utmost : FnScope nm_utmost ["numbers", "side"] (defScope s_utmost) := ⟨rfl, rfl, rfl, by decide +kernel, rfl, by decide +kernel, by decide +kernel⟩
abbrev s_side_moments : Stmt := topS 9
abbrev nm_side_moments : List Str := ["low", "high", "at", "along", "to_low", "to_high"]
theorem sc_side_moments : FnScope nm_side_moments ["low", "high", "at", "along"] (defScope s_side_moments) := ⟨rfl, rfl, rfl, by decide +kernel, rfl, by decide +kernel, by decide +kernel⟩
abbrev s_box_stretch : Stmt := topS 10
abbrev nm_box_stretch : List Str := ["box", "ray", "begin", "ends", "low", "high", "at", "along", "first", "last", "end"]
theorem sc_box_stretch : FnScope nm_box_stretch ["box", "ray"] (defScope s_box_stretch) := ⟨rfl, rfl, rfl, by decide +kernel, rfl, by decide +kernel, by decide +kernel⟩
abbrev s__law_deck : Stmt := topS 12
abbrev nm__law_deck : List Str := ["_law_script", "_law_ones", "_law_one"]
theorem sc__law_deck : FnScope nm__law_deck ["_law_script"] (defScope s__law_deck) := ⟨rfl, rfl, rfl, by decide +kernel, rfl, by decide +kernel, by decide +kernel⟩
abbrev s__law_take : Stmt := topS 13
abbrev nm__law_take : List Str := ["_law_deck_here", "_law_many", "_law_one"]
theorem sc__law_take : FnScope nm__law_take ["_law_deck_here", "_law_many"] (defScope s__law_take) := ⟨rfl, rfl, rfl, by decide +kernel, rfl, by decide +kernel, by decide +kernel⟩
abbrev s__law_gcd : Stmt := topS 14
abbrev nm__law_gcd : List Str := ["_law_one", "_law_other", "_law_rest"]
theorem sc__law_gcd : FnScope nm__law_gcd ["_law_one", "_law_other"] (defScope s__law_gcd) := ⟨rfl, rfl, rfl, by decide +kernel, rfl, by decide +kernel, by decide +kernel⟩
abbrev s__law_part : Stmt := topS 15
abbrev nm__law_part : List Str := ["_law_top", "_law_bottom", "_law_size"]
theorem sc__law_part : FnScope nm__law_part ["_law_top", "_law_bottom"] (defScope s__law_part) := ⟨rfl, rfl, rfl, by decide +kernel, rfl, by decide +kernel, by decide +kernel⟩
abbrev s__law_number : Stmt := topS 16
abbrev nm__law_number : List Str := ["_law_deck_here", "_law_far", "_law_bottom"]
theorem sc__law_number : FnScope nm__law_number ["_law_deck_here", "_law_far"] (defScope s__law_number) := ⟨rfl, rfl, rfl, by decide +kernel, rfl, by decide +kernel, by decide +kernel⟩
abbrev s__law_point : Stmt := topS 17
abbrev nm__law_point : List Str := ["_law_deck_here", "_law_far"]
theorem sc__law_point : FnScope nm__law_point ["_law_deck_here", "_law_far"] (defScope s__law_point) := ⟨rfl, rfl, rfl, by decide +kernel, rfl, by decide +kernel, by decide +kernel⟩
abbrev s__law_plus : Stmt := topS 18
abbrev nm__law_plus : List Str := ["_law_one", "_law_other"]
theorem sc__law_plus : FnScope nm__law_plus ["_law_one", "_law_other"] (defScope s__law_plus) := ⟨rfl, rfl, rfl, by decide +kernel, rfl, by decide +kernel, by decide +kernel⟩
abbrev s__law_times : Stmt := topS 19
abbrev nm__law_times : List Str := ["_law_one", "_law_other"]
theorem sc__law_times : FnScope nm__law_times ["_law_one", "_law_other"] (defScope s__law_times) := ⟨rfl, rfl, rfl, by decide +kernel, rfl, by decide +kernel, by decide +kernel⟩
abbrev s__law_less : Stmt := topS 20
abbrev nm__law_less : List Str := ["_law_one", "_law_other"]
theorem sc__law_less : FnScope nm__law_less ["_law_one", "_law_other"] (defScope s__law_less) := ⟨rfl, rfl, rfl, by decide +kernel, rfl, by decide +kernel, by decide +kernel⟩
abbrev s__law_way : Stmt := topS 21
abbrev nm__law_way : List Str := ["_law_deck_here", "_law_way_here", "_law_k"]
theorem sc__law_way : FnScope nm__law_way ["_law_deck_here"] (defScope s__law_way) := ⟨rfl, rfl, rfl, by decide +kernel, rfl, by decide +kernel, by decide +kernel⟩
abbrev s__law_put : Stmt := topS 22
abbrev nm__law_put : List Str := ["_law_row", "_law_at", "_law_thing"]
theorem sc__law_put : FnScope nm__law_put ["_law_row", "_law_at", "_law_thing"] (defScope s__law_put) := ⟨rfl, rfl, rfl, by decide +kernel, rfl, by decide +kernel, by decide +kernel⟩
abbrev s__law_through : Stmt := topS 23
abbrev nm__law_through : List Str := ["_law_one", "_law_other"]
theorem sc__law_through : FnScope nm__law_through ["_law_one", "_law_other"] (defScope s__law_through) := ⟨rfl, rfl, rfl, by decide +kernel, rfl, by decide +kernel, by decide +kernel⟩
abbrev s__law_span : Stmt := topS 24
abbrev nm__law_span : List Str := ["_law_box", "_law_ray_here", "_law_begin", "_law_end", "_law_k", "_law_low", "_law_high", "_law_way_here", "_law_ends"]
theorem sc__law_span : FnScope nm__law_span ["_law_box", "_law_ray_here"] (defScope s__law_span) := ⟨rfl, rfl, rfl, by decide +kernel, rfl, by decide +kernel, by decide +kernel⟩
abbrev s__law_ray : Stmt := topS 25
abbrev nm__law_ray : List Str := ["_law_deck_here"]
theorem sc__law_ray : FnScope nm__law_ray ["_law_deck_here"] (defScope s__law_ray) := ⟨rfl, rfl, rfl, by decide +kernel, rfl, by decide +kernel, by decide +kernel⟩
abbrev s__law_flat_box : Stmt := topS 26
abbrev nm__law_flat_box : List Str := ["_law_deck_here", "_law_low", "_law_high", "_law_part_here"]
theorem sc__law_flat_box : FnScope nm__law_flat_box ["_law_deck_here"] (defScope s__law_flat_box) := ⟨rfl, rfl, rfl, by decide +kernel, rfl, by decide +kernel, by decide +kernel⟩
abbrev s__law_spot_of : Stmt := topS 27
abbrev nm__law_spot_of : List Str := ["_law_deck_here", "_law_box", "_law_found", "_law_k", "_law_part_here"]
theorem sc__law_spot_of : FnScope nm__law_spot_of ["_law_deck_here", "_law_box"] (defScope s__law_spot_of) := ⟨rfl, rfl, rfl, by decide +kernel, rfl, by decide +kernel, by decide +kernel⟩
abbrev s__law_ray_by : Stmt := topS 28
abbrev nm__law_ray_by : List Str := ["_law_deck_here", "_law_box", "_law_kind", "_law_place", "_law_to", "_law_way_here", "_law_at", "_law_k", "_law_part_here"]
theorem sc__law_ray_by : FnScope nm__law_ray_by ["_law_deck_here", "_law_box"] (defScope s__law_ray_by) := ⟨rfl, rfl, rfl, by decide +kernel, rfl, by decide +kernel, by decide +kernel⟩
abbrev s_law : Stmt := topS 29
abbrev nm_law : List Str := ["_law_script", "_law_deck_here", "_law_turn", "_law_box", "_law_ray_here"]
theorem sc_law : FnScope nm_law ["_law_script"] (defScope s_law) := ⟨rfl, rfl, rfl, by decide +kernel, rfl, by decide +kernel, by decide +kernel⟩
structure Tx (K : PySem.W.Frag) (mg : Str → Option Value) where
  a_NOUGHT : Addr
  g_NOUGHT : mg "NOUGHT" = some (.ref a_NOUGHT)
  k_NOUGHT : ∀ Γ as H, VR ⟨K, Γ⟩ as H (.ref a_NOUGHT) (.tup [(.int 0), (.int 1)])
  f_frac : Addr
  d_frac : FuncData
  F_frac : Fun K "frac" "frac" s_frac f_frac d_frac
  b_frac : Binds K d_frac ["above", "below"] []
  g_frac : mg "frac" = some (.ref f_frac)
  f_minus : Addr
  d_minus : FuncData
  F_minus : Fun K "minus" "minus" s_minus f_minus d_minus
  b_minus : Binds K d_minus ["one", "other"] []
  g_minus : mg "minus" = some (.ref f_minus)
  f_over : Addr
  d_over : FuncData
  F_over : Fun K "over" "over" s_over f_over d_over
  b_over : Binds K d_over ["one", "other"] []
  g_over : mg "over" = some (.ref f_over)
  f_sign : Addr
  d_sign : FuncData
  F_sign : Fun K "sign" "sign" s_sign f_sign d_sign
  b_sign : Binds K d_sign ["one"] []
  g_sign : mg "sign" = some (.ref f_sign)
  f_utmost : Addr
  d_utmost : FuncData
  F_utmost : Fun K "utmost" "utmost" s_utmost f_utmost d_utmost
  b_utmost : Binds K d_utmost ["numbers", "side"] []
  g_utmost : mg "utmost" = some (.ref f_utmost)
  f_side_moments : Addr
  d_side_moments : FuncData
  F_side_moments : Fun K "side_moments" "side_moments" s_side_moments f_side_moments d_side_moments
  b_side_moments : Binds K d_side_moments ["low", "high", "at", "along"] []
  g_side_moments : mg "side_moments" = some (.ref f_side_moments)
  f_box_stretch : Addr
  d_box_stretch : FuncData
  F_box_stretch : Fun K "box_stretch" "box_stretch" s_box_stretch f_box_stretch d_box_stretch
  b_box_stretch : Binds K d_box_stretch ["box", "ray"] []
  g_box_stretch : mg "box_stretch" = some (.ref f_box_stretch)
  f__law_deck : Addr
  d__law_deck : FuncData
  F__law_deck : Fun K "_law_deck" "_law_deck" s__law_deck f__law_deck d__law_deck
  b__law_deck : Binds K d__law_deck ["_law_script"] []
  g__law_deck : mg "_law_deck" = some (.ref f__law_deck)
  f__law_take : Addr
  d__law_take : FuncData
  F__law_take : Fun K "_law_take" "_law_take" s__law_take f__law_take d__law_take
  b__law_take : Binds K d__law_take ["_law_deck_here", "_law_many"] []
  g__law_take : mg "_law_take" = some (.ref f__law_take)
  f__law_gcd : Addr
  d__law_gcd : FuncData
  F__law_gcd : Fun K "_law_gcd" "_law_gcd" s__law_gcd f__law_gcd d__law_gcd
  b__law_gcd : Binds K d__law_gcd ["_law_one", "_law_other"] []
  g__law_gcd : mg "_law_gcd" = some (.ref f__law_gcd)
  f__law_part : Addr
  d__law_part : FuncData
  F__law_part : Fun K "_law_part" "_law_part" s__law_part f__law_part d__law_part
  b__law_part : Binds K d__law_part ["_law_top", "_law_bottom"] []
  g__law_part : mg "_law_part" = some (.ref f__law_part)
  f__law_number : Addr
  d__law_number : FuncData
  F__law_number : Fun K "_law_number" "_law_number" s__law_number f__law_number d__law_number
  b__law_number : Binds K d__law_number ["_law_deck_here", "_law_far"] []
  g__law_number : mg "_law_number" = some (.ref f__law_number)
  f__law_point : Addr
  d__law_point : FuncData
  F__law_point : Fun K "_law_point" "_law_point" s__law_point f__law_point d__law_point
  b__law_point : Binds K d__law_point ["_law_deck_here", "_law_far"] []
  g__law_point : mg "_law_point" = some (.ref f__law_point)
  f__law_plus : Addr
  d__law_plus : FuncData
  F__law_plus : Fun K "_law_plus" "_law_plus" s__law_plus f__law_plus d__law_plus
  b__law_plus : Binds K d__law_plus ["_law_one", "_law_other"] []
  g__law_plus : mg "_law_plus" = some (.ref f__law_plus)
  f__law_times : Addr
  d__law_times : FuncData
  F__law_times : Fun K "_law_times" "_law_times" s__law_times f__law_times d__law_times
  b__law_times : Binds K d__law_times ["_law_one", "_law_other"] []
  g__law_times : mg "_law_times" = some (.ref f__law_times)
  f__law_less : Addr
  d__law_less : FuncData
  F__law_less : Fun K "_law_less" "_law_less" s__law_less f__law_less d__law_less
  b__law_less : Binds K d__law_less ["_law_one", "_law_other"] []
  g__law_less : mg "_law_less" = some (.ref f__law_less)
  f__law_way : Addr
  d__law_way : FuncData
  F__law_way : Fun K "_law_way" "_law_way" s__law_way f__law_way d__law_way
  b__law_way : Binds K d__law_way ["_law_deck_here"] []
  g__law_way : mg "_law_way" = some (.ref f__law_way)
  f__law_put : Addr
  d__law_put : FuncData
  F__law_put : Fun K "_law_put" "_law_put" s__law_put f__law_put d__law_put
  b__law_put : Binds K d__law_put ["_law_row", "_law_at", "_law_thing"] []
  g__law_put : mg "_law_put" = some (.ref f__law_put)
  f__law_through : Addr
  d__law_through : FuncData
  F__law_through : Fun K "_law_through" "_law_through" s__law_through f__law_through d__law_through
  b__law_through : Binds K d__law_through ["_law_one", "_law_other"] []
  g__law_through : mg "_law_through" = some (.ref f__law_through)
  f__law_span : Addr
  d__law_span : FuncData
  F__law_span : Fun K "_law_span" "_law_span" s__law_span f__law_span d__law_span
  b__law_span : Binds K d__law_span ["_law_box", "_law_ray_here"] []
  g__law_span : mg "_law_span" = some (.ref f__law_span)
  f__law_ray : Addr
  d__law_ray : FuncData
  F__law_ray : Fun K "_law_ray" "_law_ray" s__law_ray f__law_ray d__law_ray
  b__law_ray : Binds K d__law_ray ["_law_deck_here"] []
  g__law_ray : mg "_law_ray" = some (.ref f__law_ray)
  f__law_flat_box : Addr
  d__law_flat_box : FuncData
  F__law_flat_box : Fun K "_law_flat_box" "_law_flat_box" s__law_flat_box f__law_flat_box d__law_flat_box
  b__law_flat_box : Binds K d__law_flat_box ["_law_deck_here"] []
  g__law_flat_box : mg "_law_flat_box" = some (.ref f__law_flat_box)
  f__law_spot_of : Addr
  d__law_spot_of : FuncData
  F__law_spot_of : Fun K "_law_spot_of" "_law_spot_of" s__law_spot_of f__law_spot_of d__law_spot_of
  b__law_spot_of : Binds K d__law_spot_of ["_law_deck_here", "_law_box"] []
  g__law_spot_of : mg "_law_spot_of" = some (.ref f__law_spot_of)
  f__law_ray_by : Addr
  d__law_ray_by : FuncData
  F__law_ray_by : Fun K "_law_ray_by" "_law_ray_by" s__law_ray_by f__law_ray_by d__law_ray_by
  b__law_ray_by : Binds K d__law_ray_by ["_law_deck_here", "_law_box"] []
  g__law_ray_by : mg "_law_ray_by" = some (.ref f__law_ray_by)
  m_abs : mg "abs" = none
  m_int : mg "int" = none
  m_len : mg "len" = none
  m_range : mg "range" = none
  m_repr : mg "repr" = none
  m_tuple : mg "tuple" = none
  m_zip : mg "zip" = none

section
variable {P : Program} {w : World} {K : PySem.W.Frag} {mg : Str → Option Value} {base : Heap}
def gm (T : Tx K mg) : Nat → Addr
  | _ => 0

theorem okS_frac (T : Tx K mg) : FnOk P w K mg base CX0 1 T.f_frac T.d_frac ["above", "below"] (spP ⟨K, gm T⟩ 2 m_frac) :=
  okP (K := ⟨K, gm T⟩) T.F_frac sc_frac (k := 0) fun cdv A outer s H E hr =>
      (sss_cons (ss_par (i := 2) (j := 3) sc_frac.nd rfl rfl (by decide) rfl rfl (sa_cons (se_pv (pv 1)) (sa_cons (se_op or_mod (se_pv (pv 0)) (se_pv (pv 1))) sa_nil)) (by rfl))
      (sss_cons (ss_while PassesOwn.never (st_tru (se_pv (pv 3)) (by intro _; rfl)) (sss_one (ss_par (i := 2) (j := 3) sc_frac.nd rfl rfl (by decide) rfl rfl (sa_cons (se_pv (pv 3)) (sa_cons (se_op or_mod (se_pv (pv 2)) (se_pv (pv 3))) sa_nil)) (by rfl))))
      (sss_one (ss_ret (se_tup (sa_cons (se_op or_fd (se_pv (pv 0)) (se_pv (pv 2))) (sa_cons (se_op or_fd (se_pv (pv 1)) (se_pv (pv 2))) sa_nil)))))))
theorem okS_minus (T : Tx K mg) : FnOk P w K mg base CX0 2 T.f_minus T.d_minus ["one", "other"] (spP ⟨K, gm T⟩ 2 m_minus) :=
  okP (K := ⟨K, gm T⟩) T.F_minus sc_minus (k := 1) fun cdv A outer s H E hr =>
      (sss_one (ss_ret (se_callP (n := 2) (lo_frac) (fun _ => (okS_frac T)) (hr.mono (by first | decide | omega)) (by rfl) T.g_frac (fun _ => T.F_frac.kp) (fun _ => T.b_frac) (sa_cons (se_op or_sub (se_op or_mul (se_ix xr_ix (se_pv (pv 0)) se_int (fun _ _ => rfl)) (se_ix xr_ix (se_pv (pv 1)) se_int (fun _ _ => rfl))) (se_op or_mul (se_ix xr_ix (se_pv (pv 1)) se_int (fun _ _ => rfl)) (se_ix xr_ix (se_pv (pv 0)) se_int (fun _ _ => rfl)))) (sa_cons (se_op or_mul (se_ix xr_ix (se_pv (pv 0)) se_int (fun _ _ => rfl)) (se_ix xr_ix (se_pv (pv 1)) se_int (fun _ _ => rfl))) sa_nil)))))
theorem okS_over (T : Tx K mg) : FnOk P w K mg base CX0 2 T.f_over T.d_over ["one", "other"] (spP ⟨K, gm T⟩ 2 m_over) :=
  okP (K := ⟨K, gm T⟩) T.F_over sc_over (k := 1) fun cdv A outer s H E hr =>
      (sss_one (ss_ret (se_callP (n := 2) (lo_frac) (fun _ => (okS_frac T)) (hr.mono (by first | decide | omega)) (by rfl) T.g_frac (fun _ => T.F_frac.kp) (fun _ => T.b_frac) (sa_cons (se_op or_mul (se_ix xr_ix (se_pv (pv 0)) se_int (fun _ _ => rfl)) (se_ix xr_ix (se_pv (pv 1)) se_int (fun _ _ => rfl))) (sa_cons (se_op or_mul (se_ix xr_ix (se_pv (pv 0)) se_int (fun _ _ => rfl)) (se_ix xr_ix (se_pv (pv 1)) se_int (fun _ _ => rfl))) sa_nil)))))
theorem okS_sign (T : Tx K mg) : FnOk P w K mg base CX0 1 T.f_sign T.d_sign ["one"] (spP ⟨K, gm T⟩ 1 m_sign) :=
  okP (K := ⟨K, gm T⟩) T.F_sign sc_sign (k := 0) fun cdv A outer s H E hr =>
      (sss_cons (ss_if (st_cmp or_lt (se_ix xr_ix (se_pv (pv 0)) se_int (fun _ _ => rfl)) se_int (nomark _)) (sss_one (ss_ret (se_un ur_neg se_int))) sss_nil)
      (sss_cons (ss_if (st_cmp or_gt (se_ix xr_ix (se_pv (pv 0)) se_int (fun _ _ => rfl)) se_int (nomark _)) (sss_one (ss_ret se_int)) sss_nil)
      (sss_one (ss_ret se_int))))
theorem okS_utmost (T : Tx K mg) : FnOk P w K mg base CX0 3 T.f_utmost T.d_utmost ["numbers", "side"] (spM ⟨K, gm T⟩ 2 m_utmost) :=
  okM (K := ⟨K, gm T⟩) T.F_utmost sc_utmost (k := 2) fun cdv A outer s H E hr =>
      (sss_cons (ss_set (i := 2) sc_utmost.nd rfl (by first | exact Or.inl rfl | exact Or.inr rfl) (se_ix xr_ix (se_pv (pv 0)) se_int (fun _ _ => rfl)))
      (sss_cons (ss_for (vs := [3]) PassesOwn.never (si_e (se_pv (pv 0))) (sg_name (i := 3) (by decide) sc_utmost.nd rfl (by first | exact Or.inl rfl | exact Or.inr rfl)) (sss_one (ss_if (st_cmp (or_eq hr.units) (se_callP (n := 1) (lo_sign) (fun _ => (okS_sign T)) (hr.mono (by first | decide | omega)) (by rfl) T.g_sign (fun _ => T.F_sign.kp) (fun _ => T.b_sign) (sa_cons (se_callP (n := 2) (lo_minus) (fun _ => (okS_minus T)) (hr.mono (by first | decide | omega)) (by rfl) T.g_minus (fun _ => T.F_minus.kp) (fun _ => T.b_minus) (sa_cons (se_pv (pv 3)) (sa_cons (se_pv (pv 2)) sa_nil))) sa_nil)) (se_pv (pv 1)) (nomark _)) (sss_one (ss_set (i := 2) sc_utmost.nd rfl (by first | exact Or.inl rfl | exact Or.inr rfl) (se_pv (pv 3)))) sss_nil)))
      (sss_one (ss_ret (se_pv (pv 2))))))
theorem okS_side_moments (T : Tx K mg) : FnOk P w K mg base CX0 3 T.f_side_moments T.d_side_moments ["low", "high", "at", "along"] (spP ⟨K, gm T⟩ 4 m_side_moments) :=
  okP (K := ⟨K, gm T⟩) T.F_side_moments sc_side_moments (k := 2) fun cdv A outer s H E hr =>
      (sss_cons (ss_par (i := 4) (j := 5) sc_side_moments.nd rfl rfl (by decide) rfl rfl (sa_cons (se_callP (n := 2) (lo_over) (fun _ => (okS_over T)) (hr.mono (by first | decide | omega)) (by rfl) T.g_over (fun _ => T.F_over.kp) (fun _ => T.b_over) (sa_cons (se_callP (n := 2) (lo_minus) (fun _ => (okS_minus T)) (hr.mono (by first | decide | omega)) (by rfl) T.g_minus (fun _ => T.F_minus.kp) (fun _ => T.b_minus) (sa_cons (se_pv (pv 0)) (sa_cons (se_pv (pv 2)) sa_nil))) (sa_cons (se_pv (pv 3)) sa_nil))) (sa_cons (se_callP (n := 2) (lo_over) (fun _ => (okS_over T)) (hr.mono (by first | decide | omega)) (by rfl) T.g_over (fun _ => T.F_over.kp) (fun _ => T.b_over) (sa_cons (se_callP (n := 2) (lo_minus) (fun _ => (okS_minus T)) (hr.mono (by first | decide | omega)) (by rfl) T.g_minus (fun _ => T.F_minus.kp) (fun _ => T.b_minus) (sa_cons (se_pv (pv 1)) (sa_cons (se_pv (pv 2)) sa_nil))) (sa_cons (se_pv (pv 3)) sa_nil))) sa_nil)) (by rfl))
      (sss_one (ss_ret (se_if (st_cmp or_gt (se_callP (n := 1) (lo_sign) (fun _ => (okS_sign T)) (hr.mono (by first | decide | omega)) (by rfl) T.g_sign (fun _ => T.F_sign.kp) (fun _ => T.b_sign) (sa_cons (se_pv (pv 3)) sa_nil)) se_int (nomark _)) (se_tup (sa_cons (se_pv (pv 4)) (sa_cons (se_pv (pv 5)) sa_nil))) (se_tup (sa_cons (se_pv (pv 5)) (sa_cons (se_pv (pv 4)) sa_nil)))))))
theorem okS_box_stretch (T : Tx K mg) : FnOk P w K mg base CX0 4 T.f_box_stretch T.d_box_stretch ["box", "ray"] (spP ⟨K, gm T⟩ 2 m_box_stretch) :=
  okP (K := ⟨K, gm T⟩) T.F_box_stretch sc_box_stretch (k := 3) fun cdv A outer s H E hr =>
      (sss_cons (ss_if (st_cmp (or_eq hr.units) (se_pv (pv 0)) (se_tup sa_nil) (nomark _)) (sss_one (ss_ret se_non)) sss_nil)
      (sss_cons (ss_par (i := 2) (j := 3) sc_box_stretch.nd rfl rfl (by decide) rfl rfl (sa_cons (se_glob (v := .ref T.a_NOUGHT) (by rfl) T.g_NOUGHT rfl (T.k_NOUGHT _)) (sa_cons (se_lst sa_nil) sa_nil)) (by rfl))
      (sss_cons (ss_for (vs := [4, 5, 6, 7]) PassesOwn.never (si_zip4 (by rfl) T.m_zip (se_ix xr_ix (se_pv (pv 0)) se_int (fun _ _ => rfl)) (se_ix xr_ix (se_pv (pv 0)) se_int (fun _ _ => rfl)) (se_ix xr_ix (se_pv (pv 1)) se_int (fun _ _ => rfl)) (se_ix xr_ix (se_pv (pv 1)) se_int (fun _ _ => rfl))) (sg_tup (sgs_cons (sg_name (i := 4) (by decide) sc_box_stretch.nd rfl (by first | exact Or.inl rfl | exact Or.inr rfl)) (sgs_cons (sg_name (i := 5) (by decide) sc_box_stretch.nd rfl (by first | exact Or.inl rfl | exact Or.inr rfl)) (sgs_cons (sg_name (i := 6) (by decide) sc_box_stretch.nd rfl (by first | exact Or.inl rfl | exact Or.inr rfl)) (sgs_cons (sg_name (i := 7) (by decide) sc_box_stretch.nd rfl (by first | exact Or.inl rfl | exact Or.inr rfl)) sgs_nil))))) (sss_cons (ss_if (st_cmp (or_eq hr.units) (se_callP (n := 1) (lo_sign) (fun _ => (okS_sign T)) (hr.mono (by first | decide | omega)) (by rfl) T.g_sign (fun _ => T.F_sign.kp) (fun _ => T.b_sign) (sa_cons (se_pv (pv 7)) sa_nil)) se_int (nomark _)) (sss_cons (ss_if (sw_pt (sw_or (st_cmp or_lt (se_callP (n := 1) (lo_sign) (fun _ => (okS_sign T)) (hr.mono (by first | decide | omega)) (by rfl) T.g_sign (fun _ => T.F_sign.kp) (fun _ => T.b_sign) (sa_cons (se_callP (n := 2) (lo_minus) (fun _ => (okS_minus T)) (hr.mono (by first | decide | omega)) (by rfl) T.g_minus (fun _ => T.F_minus.kp) (fun _ => T.b_minus) (sa_cons (se_pv (pv 6)) (sa_cons (se_pv (pv 4)) sa_nil))) sa_nil)) se_int (nomark _)) (sw_or1 (st_cmp or_lt (se_callP (n := 1) (lo_sign) (fun _ => (okS_sign T)) (hr.mono (by first | decide | omega)) (by rfl) T.g_sign (fun _ => T.F_sign.kp) (fun _ => T.b_sign) (sa_cons (se_callP (n := 2) (lo_minus) (fun _ => (okS_minus T)) (hr.mono (by first | decide | omega)) (by rfl) T.g_minus (fun _ => T.F_minus.kp) (fun _ => T.b_minus) (sa_cons (se_pv (pv 5)) (sa_cons (se_pv (pv 6)) sa_nil))) sa_nil)) se_int (nomark _))))) (sss_one (ss_ret se_non)) sss_nil)
      (sss_one ss_cont)) sss_nil)
      (sss_cons (ss_asg (vs := [8, 9]) (se_callP (n := 4) (lo_side_moments) (fun _ => (okS_side_moments T)) (hr.mono (by first | decide | omega)) (by rfl) T.g_side_moments (fun _ => T.F_side_moments.kp) (fun _ => T.b_side_moments) (sa_cons (se_pv (pv 4)) (sa_cons (se_pv (pv 5)) (sa_cons (se_pv (pv 6)) (sa_cons (se_pv (pv 7)) sa_nil))))) (sg_tup (sgs_cons (sg_name (i := 8) (by decide) sc_box_stretch.nd rfl (by first | exact Or.inl rfl | exact Or.inr rfl)) (sgs_cons (sg_name (i := 9) (by decide) sc_box_stretch.nd rfl (by first | exact Or.inl rfl | exact Or.inr rfl)) sgs_nil))))
      (sss_cons (ss_set (i := 2) sc_box_stretch.nd rfl (by first | exact Or.inl rfl | exact Or.inr rfl) (se_callM (n := 2) (ln_utmost) (fun _ => (okS_utmost T)) (hr.mono (by first | decide | omega)) (by rfl) T.g_utmost (fun _ => T.F_utmost.kp) (fun _ => T.b_utmost) (sa_cons (se_lst (sa_cons (se_pv (pv 2)) (sa_cons (se_pv (pv 8)) sa_nil))) (sa_cons se_int sa_nil))))
      (sss_one (ss_expr (se_app (se_pv (pv 3)) (sa_cons (se_pv (pv 9)) sa_nil))))))))
      (sss_cons (ss_set (i := 10) sc_box_stretch.nd rfl (by first | exact Or.inl rfl | exact Or.inr rfl) (se_callM (n := 2) (ln_utmost) (fun _ => (okS_utmost T)) (hr.mono (by first | decide | omega)) (by rfl) T.g_utmost (fun _ => T.F_utmost.kp) (fun _ => T.b_utmost) (sa_cons (se_pv (pv 3)) (sa_cons (se_un ur_neg se_int) sa_nil))))
      (sss_one (ss_ret (se_if (st_cmp or_lt (se_callP (n := 1) (lo_sign) (fun _ => (okS_sign T)) (hr.mono (by first | decide | omega)) (by rfl) T.g_sign (fun _ => T.F_sign.kp) (fun _ => T.b_sign) (sa_cons (se_callP (n := 2) (lo_minus) (fun _ => (okS_minus T)) (hr.mono (by first | decide | omega)) (by rfl) T.g_minus (fun _ => T.F_minus.kp) (fun _ => T.b_minus) (sa_cons (se_pv (pv 10)) (sa_cons (se_pv (pv 2)) sa_nil))) sa_nil)) se_int (nomark _)) se_non (se_tup (sa_cons (se_pv (pv 2)) (sa_cons (se_pv (pv 10)) sa_nil))))))))))
theorem okS__law_deck (T : Tx K mg) : FnOk P w K mg base CX0 1 T.f__law_deck T.d__law_deck ["_law_script"] (spM ⟨K, gm T⟩ 1 m__law_deck) :=
  okM (K := ⟨K, gm T⟩) T.F__law_deck sc__law_deck (k := 0) fun cdv A outer s H E hr =>
      (sss_cons (ss_set (i := 1) sc__law_deck.nd rfl (by first | exact Or.inl rfl | exact Or.inr rfl) (se_op or_add (se_lc (own := [("_law_one", 2)]) sc__law_deck.nd (si_e (se_pv (pv 0))) (blkOk_by (own := [("_law_one", 2)]) (N := nm__law_deck) (sc := defScope s__law_deck) (by decide +kernel)) (fun _ _ _ _ _ => (sg_name (i := 2) (by decide) sc__law_deck.nd rfl (by first | exact Or.inl rfl | exact Or.inr rfl))) (fun _ _ _ _ _ => sts_nil) (fun _ _ _ _ _ => (se_callB cr_abs' (by rfl) T.m_abs (by decide +kernel) (sa_cons (se_pv (pv 2)) sa_nil)))) (se_op or_mul (se_lst (sa_cons se_int sa_nil)) (se_callTy cr_int' (by rfl) T.m_int (by decide +kernel) (sa_cons (se_cmp (or_eq hr.units) (se_callB cr_len' (by rfl) T.m_len (by decide +kernel) (sa_cons (se_pv (pv 0)) sa_nil)) se_int (nomark _)) sa_nil)))))
      (sss_one (ss_ret (se_lst (sa_cons (se_pv (pv 1)) (sa_cons (se_lc (own := [("_law_one", 2)]) sc__law_deck.nd (si_e (se_pv (pv 1))) (blkOk_by (own := [("_law_one", 2)]) (N := nm__law_deck) (sc := defScope s__law_deck) (by decide +kernel)) (fun _ _ _ _ _ => (sg_name (i := 2) (by decide) sc__law_deck.nd rfl (by first | exact Or.inl rfl | exact Or.inr rfl))) (fun _ _ _ _ _ => (sts_one (st_cmp or_ge (se_pv (pv 2)) (se_op or_pow se_int se_int) (nomark _)))) (fun _ _ _ _ _ => (se_pv (pv 2)))) (sa_cons se_int (sa_cons se_int sa_nil))))))))
theorem okS__law_take (T : Tx K mg) : FnOk P w K mg base CX0 1 T.f__law_take T.d__law_take ["_law_deck_here", "_law_many"] (spM ⟨K, gm T⟩ 2 m__law_take) :=
  okG (K := ⟨K, gm T⟩) T.F__law_take sc__law_take (k := 0) fun cdv A outer s H E hr =>
      (sss_cons (ss_while PassesOwn.never (st_cmp or_lt (se_ix xr_ix (se_pv (pv 0)) se_int (fun _ _ => rfl)) (se_callB cr_len' (by rfl) T.m_len (by decide +kernel) (sa_cons (se_ix xr_ix (se_pv (pv 0)) se_int (fun _ _ => rfl)) sa_nil)) (nomark _)) (sss_cons (ss_set (i := 2) sc__law_take.nd rfl (by first | exact Or.inl rfl | exact Or.inr rfl) (se_ix xr_ix (se_ix xr_ix (se_pv (pv 0)) se_int (fun _ _ => rfl)) (se_ix xr_ix (se_pv (pv 0)) se_int (fun _ _ => rfl)) (fun _ _ => rfl)))
      (sss_cons (ss_if (st_cmp or_gt (se_pv (pv 2)) se_int (nomark _)) (sss_cons (ss_sub (se_op or_fd (se_pv (pv 2)) (se_pv (pv 1))) (se_ix xr_ix (se_pv (pv 0)) se_int (fun _ _ => rfl)) (se_ix xr_ix (se_pv (pv 0)) se_int (fun _ _ => rfl)))
      (sss_one (ss_ret (se_op or_mod (se_pv (pv 2)) (se_pv (pv 1)))))) sss_nil)
      (sss_one (ss_sub (se_op or_add (se_ix xr_ix (se_pv (pv 0)) se_int (fun _ _ => rfl)) se_int) (se_pv (pv 0)) se_int)))))
      (sss_cons (ss_sub (se_op or_add (se_ix xr_ix (se_pv (pv 0)) se_int (fun _ _ => rfl)) se_int) (se_pv (pv 0)) se_int)
      (sss_cons (ss_set (i := 2) sc__law_take.nd rfl (by first | exact Or.inl rfl | exact Or.inr rfl) (se_op or_add (se_op or_mod (se_ix xr_ix (se_ix xr_ix (se_pv (pv 0)) se_int (fun _ _ => rfl)) (se_op or_mod (se_ix xr_ix (se_pv (pv 0)) se_int (fun _ _ => rfl)) (se_callB cr_len' (by rfl) T.m_len (by decide +kernel) (sa_cons (se_ix xr_ix (se_pv (pv 0)) se_int (fun _ _ => rfl)) sa_nil))) (fun _ _ => rfl)) se_int) se_int))
      (sss_one (ss_ret (se_op or_mod (se_op or_fd (se_op or_mod (se_op or_pow (se_op or_add (se_op or_mul (se_pv (pv 2)) (se_op or_add (se_ix xr_ix (se_pv (pv 0)) se_int (fun _ _ => rfl)) se_int)) (se_op or_mul se_int (se_ix xr_ix (se_pv (pv 0)) se_int (fun _ _ => rfl)))) se_int) se_int) se_int) (se_pv (pv 1))))))))
theorem okS__law_gcd (T : Tx K mg) : FnOk P w K mg base CX0 1 T.f__law_gcd T.d__law_gcd ["_law_one", "_law_other"] (spP ⟨K, gm T⟩ 2 m__law_gcd) :=
  okP (K := ⟨K, gm T⟩) T.F__law_gcd sc__law_gcd (k := 0) fun cdv A outer s H E hr =>
      (sss_cons (ss_while PassesOwn.never (st_cmp (or_ne hr.units) (se_pv (pv 1)) se_int (nomark _)) (sss_cons (ss_set (i := 2) sc__law_gcd.nd rfl (by first | exact Or.inl rfl | exact Or.inr rfl) (se_op or_mod (se_pv (pv 0)) (se_pv (pv 1))))
      (sss_cons (ss_set (i := 0) sc__law_gcd.nd rfl (by first | exact Or.inl rfl | exact Or.inr rfl) (se_pv (pv 1)))
      (sss_one (ss_set (i := 1) sc__law_gcd.nd rfl (by first | exact Or.inl rfl | exact Or.inr rfl) (se_pv (pv 2)))))))
      (sss_one (ss_ret (se_callB cr_abs' (by rfl) T.m_abs (by decide +kernel) (sa_cons (se_pv (pv 0)) sa_nil)))))
theorem okS__law_part (T : Tx K mg) : FnOk P w K mg base CX0 2 T.f__law_part T.d__law_part ["_law_top", "_law_bottom"] (spP ⟨K, gm T⟩ 2 m__law_part) :=
  okP (K := ⟨K, gm T⟩) T.F__law_part sc__law_part (k := 1) fun cdv A outer s H E hr =>
      (sss_cons (ss_set (i := 2) sc__law_part.nd rfl (by first | exact Or.inl rfl | exact Or.inr rfl) (se_callP (n := 2) (lo__law_gcd) (fun _ => (okS__law_gcd T)) (hr.mono (by first | decide | omega)) (by rfl) T.g__law_gcd (fun _ => T.F__law_gcd.kp) (fun _ => T.b__law_gcd) (sa_cons (se_pv (pv 0)) (sa_cons (se_pv (pv 1)) sa_nil))))
      (sss_cons (ss_if (st_cmp or_lt (se_pv (pv 1)) se_int (nomark _)) (sss_one (ss_set (i := 2) sc__law_part.nd rfl (by first | exact Or.inl rfl | exact Or.inr rfl) (se_un ur_neg (se_pv (pv 2))))) sss_nil)
      (sss_one (ss_ret (se_tup (sa_cons (se_op or_fd (se_pv (pv 0)) (se_pv (pv 2))) (sa_cons (se_op or_fd (se_pv (pv 1)) (se_pv (pv 2))) sa_nil)))))))
theorem okS__law_number (T : Tx K mg) : FnOk P w K mg base CX0 3 T.f__law_number T.d__law_number ["_law_deck_here", "_law_far"] (spM ⟨K, gm T⟩ 2 m__law_number) :=
  okG (K := ⟨K, gm T⟩) T.F__law_number sc__law_number (k := 2) fun cdv A outer s H E hr =>
      (sss_cons (ss_set (i := 2) sc__law_number.nd rfl (by first | exact Or.inl rfl | exact Or.inr rfl) (se_ix xr_ix (se_lst (sa_cons se_int (sa_cons se_int (sa_cons se_int (sa_cons se_int (sa_cons se_int (sa_cons se_int sa_nil))))))) (se_callM (n := 2) (ln__law_take) (fun _ => (okS__law_take T)) (hr.mono (by first | decide | omega)) (by rfl) T.g__law_take (fun _ => T.F__law_take.kp) (fun _ => T.b__law_take) (sa_cons (se_pv (pv 0)) (sa_cons se_int sa_nil))) (fun _ _ => rfl)))
      (sss_one (ss_ret (se_callP (n := 2) (lo__law_part) (fun _ => (okS__law_part T)) (hr.mono (by first | decide | omega)) (by rfl) T.g__law_part (fun _ => T.F__law_part.kp) (fun _ => T.b__law_part) (sa_cons (se_op or_sub (se_callM (n := 2) (ln__law_take) (fun _ => (okS__law_take T)) (hr.mono (by first | decide | omega)) (by rfl) T.g__law_take (fun _ => T.F__law_take.kp) (fun _ => T.b__law_take) (sa_cons (se_pv (pv 0)) (sa_cons (se_op or_add (se_op or_mul (se_op or_mul se_int (se_pv (pv 1))) (se_pv (pv 2))) se_int) sa_nil))) (se_op or_mul (se_pv (pv 1)) (se_pv (pv 2)))) (sa_cons (se_pv (pv 2)) sa_nil))))))
theorem okS__law_point (T : Tx K mg) : FnOk P w K mg base CX0 4 T.f__law_point T.d__law_point ["_law_deck_here", "_law_far"] (spM ⟨K, gm T⟩ 2 m__law_point) :=
  okG (K := ⟨K, gm T⟩) T.F__law_point sc__law_point (k := 3) fun cdv A outer s H E hr =>
      (sss_one (ss_ret (se_tup (sa_cons (se_callM (n := 2) (ln__law_number) (fun _ => (okS__law_number T)) (hr.mono (by first | decide | omega)) (by rfl) T.g__law_number (fun _ => T.F__law_number.kp) (fun _ => T.b__law_number) (sa_cons (se_pv (pv 0)) (sa_cons (se_pv (pv 1)) sa_nil))) (sa_cons (se_callM (n := 2) (ln__law_number) (fun _ => (okS__law_number T)) (hr.mono (by first | decide | omega)) (by rfl) T.g__law_number (fun _ => T.F__law_number.kp) (fun _ => T.b__law_number) (sa_cons (se_pv (pv 0)) (sa_cons (se_pv (pv 1)) sa_nil))) (sa_cons (se_callM (n := 2) (ln__law_number) (fun _ => (okS__law_number T)) (hr.mono (by first | decide | omega)) (by rfl) T.g__law_number (fun _ => T.F__law_number.kp) (fun _ => T.b__law_number) (sa_cons (se_pv (pv 0)) (sa_cons (se_pv (pv 1)) sa_nil))) sa_nil))))))
theorem okS__law_plus (T : Tx K mg) : FnOk P w K mg base CX0 3 T.f__law_plus T.d__law_plus ["_law_one", "_law_other"] (spP ⟨K, gm T⟩ 2 m__law_plus) :=
  okP (K := ⟨K, gm T⟩) T.F__law_plus sc__law_plus (k := 2) fun cdv A outer s H E hr =>
      (sss_one (ss_ret (se_callP (n := 2) (lo__law_part) (fun _ => (okS__law_part T)) (hr.mono (by first | decide | omega)) (by rfl) T.g__law_part (fun _ => T.F__law_part.kp) (fun _ => T.b__law_part) (sa_cons (se_op or_add (se_op or_mul (se_ix xr_ix (se_pv (pv 0)) se_int (fun _ _ => rfl)) (se_ix xr_ix (se_pv (pv 1)) se_int (fun _ _ => rfl))) (se_op or_mul (se_ix xr_ix (se_pv (pv 1)) se_int (fun _ _ => rfl)) (se_ix xr_ix (se_pv (pv 0)) se_int (fun _ _ => rfl)))) (sa_cons (se_op or_mul (se_ix xr_ix (se_pv (pv 0)) se_int (fun _ _ => rfl)) (se_ix xr_ix (se_pv (pv 1)) se_int (fun _ _ => rfl))) sa_nil)))))
theorem okS__law_times (T : Tx K mg) : FnOk P w K mg base CX0 3 T.f__law_times T.d__law_times ["_law_one", "_law_other"] (spP ⟨K, gm T⟩ 2 m__law_times) :=
  okP (K := ⟨K, gm T⟩) T.F__law_times sc__law_times (k := 2) fun cdv A outer s H E hr =>
      (sss_one (ss_ret (se_callP (n := 2) (lo__law_part) (fun _ => (okS__law_part T)) (hr.mono (by first | decide | omega)) (by rfl) T.g__law_part (fun _ => T.F__law_part.kp) (fun _ => T.b__law_part) (sa_cons (se_op or_mul (se_ix xr_ix (se_pv (pv 0)) se_int (fun _ _ => rfl)) (se_ix xr_ix (se_pv (pv 1)) se_int (fun _ _ => rfl))) (sa_cons (se_op or_mul (se_ix xr_ix (se_pv (pv 0)) se_int (fun _ _ => rfl)) (se_ix xr_ix (se_pv (pv 1)) se_int (fun _ _ => rfl))) sa_nil)))))
theorem okS__law_less (T : Tx K mg) : FnOk P w K mg base CX0 3 T.f__law_less T.d__law_less ["_law_one", "_law_other"] (spP ⟨K, gm T⟩ 2 m__law_less) :=
  okP (K := ⟨K, gm T⟩) T.F__law_less sc__law_less (k := 2) fun cdv A outer s H E hr =>
      (sss_one (ss_ret (se_callP (n := 2) (lo__law_part) (fun _ => (okS__law_part T)) (hr.mono (by first | decide | omega)) (by rfl) T.g__law_part (fun _ => T.F__law_part.kp) (fun _ => T.b__law_part) (sa_cons (se_op or_sub (se_op or_mul (se_ix xr_ix (se_pv (pv 0)) se_int (fun _ _ => rfl)) (se_ix xr_ix (se_pv (pv 1)) se_int (fun _ _ => rfl))) (se_op or_mul (se_ix xr_ix (se_pv (pv 1)) se_int (fun _ _ => rfl)) (se_ix xr_ix (se_pv (pv 0)) se_int (fun _ _ => rfl)))) (sa_cons (se_op or_mul (se_ix xr_ix (se_pv (pv 0)) se_int (fun _ _ => rfl)) (se_ix xr_ix (se_pv (pv 1)) se_int (fun _ _ => rfl))) sa_nil)))))
theorem okS__law_way (T : Tx K mg) : FnOk P w K mg base CX0 2 T.f__law_way T.d__law_way ["_law_deck_here"] (spM ⟨K, gm T⟩ 1 m__law_way) :=
  okG (K := ⟨K, gm T⟩) T.F__law_way sc__law_way (k := 1) fun cdv A outer s H E hr =>
      (sss_cons (ss_setLc (i := 1) (own := [("_law_k", 2)]) sc__law_way.nd rfl rfl (sw_true rfl rfl rfl (by decide +kernel)) (si_range1 (by rfl) T.m_range se_int) (blkOk_by (own := [("_law_k", 2)]) (N := nm__law_way) (sc := defScope s__law_way) (by decide +kernel)) (fun _ _ _ _ _ => (sg_name (i := 2) (by decide) sc__law_way.nd rfl (by first | exact Or.inl rfl | exact Or.inr rfl))) (fun _ _ _ _ _ => sts_nil) (fun _ _ _ _ _ => (se_tup (sa_cons (se_op or_sub (se_callM (n := 2) (ln__law_take) (fun _ => (okS__law_take T)) (hr.mono (by first | decide | omega)) (by rfl) T.g__law_take (fun _ => T.F__law_take.kp) (fun _ => T.b__law_take) (sa_cons (se_pv (pv 0)) (sa_cons se_int sa_nil))) se_int) (sa_cons se_int sa_nil)))))
      (sss_cons (ss_if (st_cmp (or_eq hr.units) (se_pv (pv 1)) (se_op or_mul (se_lst (sa_cons (se_tup (sa_cons se_int (sa_cons se_int sa_nil))) sa_nil)) se_int) (nomark _)) (sss_one (ss_sub (se_tup (sa_cons se_int (sa_cons se_int sa_nil))) (se_pv (pv 1)) (se_callM (n := 2) (ln__law_take) (fun _ => (okS__law_take T)) (hr.mono (by first | decide | omega)) (by rfl) T.g__law_take (fun _ => T.F__law_take.kp) (fun _ => T.b__law_take) (sa_cons (se_pv (pv 0)) (sa_cons se_int sa_nil))))) sss_nil)
      (sss_one (ss_ret (se_callTy cr_tuple' (by rfl) T.m_tuple (by decide +kernel) (sa_cons (se_pv (pv 1)) sa_nil))))))
theorem okS__law_put (T : Tx K mg) : FnOk P w K mg base CX0 1 T.f__law_put T.d__law_put ["_law_row", "_law_at", "_law_thing"] (spP ⟨K, gm T⟩ 3 m__law_put) :=
  okP (K := ⟨K, gm T⟩) T.F__law_put sc__law_put (k := 0) fun cdv A outer s H E hr =>
      (sss_one (ss_ret (se_op or_add (se_op or_add (se_slice (se_pv (pv 0)) spo_none (spo_some (se_pv (pv 1)))) (se_tup (sa_cons (se_pv (pv 2)) sa_nil))) (se_slice (se_pv (pv 0)) (spo_some (se_op or_add (se_pv (pv 1)) se_int)) spo_none))))
theorem okS__law_through (T : Tx K mg) : FnOk P w K mg base CX0 3 T.f__law_through T.d__law_through ["_law_one", "_law_other"] (spP ⟨K, gm T⟩ 2 m__law_through) :=
  okP (K := ⟨K, gm T⟩) T.F__law_through sc__law_through (k := 2) fun cdv A outer s H E hr =>
      (sss_one (ss_ret (se_callP (n := 2) (lo__law_part) (fun _ => (okS__law_part T)) (hr.mono (by first | decide | omega)) (by rfl) T.g__law_part (fun _ => T.F__law_part.kp) (fun _ => T.b__law_part) (sa_cons (se_op or_mul (se_ix xr_ix (se_pv (pv 0)) se_int (fun _ _ => rfl)) (se_ix xr_ix (se_pv (pv 1)) se_int (fun _ _ => rfl))) (sa_cons (se_op or_mul (se_ix xr_ix (se_pv (pv 0)) se_int (fun _ _ => rfl)) (se_ix xr_ix (se_pv (pv 1)) se_int (fun _ _ => rfl))) sa_nil)))))
theorem okS__law_span (T : Tx K mg) : FnOk P w K mg base CX0 4 T.f__law_span T.d__law_span ["_law_box", "_law_ray_here"] (spP ⟨K, gm T⟩ 2 m__law_span) :=
  okP (K := ⟨K, gm T⟩) T.F__law_span sc__law_span (k := 3) fun cdv A outer s H E hr =>
      (sss_cons (ss_set (i := 2) sc__law_span.nd rfl (by first | exact Or.inl rfl | exact Or.inr rfl) (se_tup (sa_cons se_int (sa_cons se_int sa_nil))))
      (sss_cons (ss_set (i := 3) sc__law_span.nd rfl (by first | exact Or.inl rfl | exact Or.inr rfl) se_non)
      (sss_cons (ss_for (vs := [4]) PassesOwn.never (si_range1 (by rfl) T.m_range se_int) (sg_name (i := 4) (by decide) sc__law_span.nd rfl (by first | exact Or.inl rfl | exact Or.inr rfl)) (sss_cons (ss_set (i := 5) sc__law_span.nd rfl (by first | exact Or.inl rfl | exact Or.inr rfl) (se_callP (n := 2) (lo__law_less) (fun _ => (okS__law_less T)) (hr.mono (by first | decide | omega)) (by rfl) T.g__law_less (fun _ => T.F__law_less.kp) (fun _ => T.b__law_less) (sa_cons (se_ix xr_ix (se_ix xr_ix (se_pv (pv 0)) se_int (fun _ _ => rfl)) (se_pv (pv 4)) (fun _ _ => rfl)) (sa_cons (se_ix xr_ix (se_ix xr_ix (se_pv (pv 1)) se_int (fun _ _ => rfl)) (se_pv (pv 4)) (fun _ _ => rfl)) sa_nil))))
      (sss_cons (ss_set (i := 6) sc__law_span.nd rfl (by first | exact Or.inl rfl | exact Or.inr rfl) (se_callP (n := 2) (lo__law_less) (fun _ => (okS__law_less T)) (hr.mono (by first | decide | omega)) (by rfl) T.g__law_less (fun _ => T.F__law_less.kp) (fun _ => T.b__law_less) (sa_cons (se_ix xr_ix (se_ix xr_ix (se_pv (pv 0)) se_int (fun _ _ => rfl)) (se_pv (pv 4)) (fun _ _ => rfl)) (sa_cons (se_ix xr_ix (se_ix xr_ix (se_pv (pv 1)) se_int (fun _ _ => rfl)) (se_pv (pv 4)) (fun _ _ => rfl)) sa_nil))))
      (sss_cons (ss_set (i := 7) sc__law_span.nd rfl (by first | exact Or.inl rfl | exact Or.inr rfl) (se_ix xr_ix (se_ix xr_ix (se_pv (pv 1)) se_int (fun _ _ => rfl)) (se_pv (pv 4)) (fun _ _ => rfl)))
      (sss_one (ss_if (st_cmp (or_eq hr.units) (se_ix xr_ix (se_pv (pv 7)) se_int (fun _ _ => rfl)) se_int (nomark _)) (sss_one (ss_if (sw_pt (sw_or (st_cmp or_gt (se_ix xr_ix (se_pv (pv 5)) se_int (fun _ _ => rfl)) se_int (nomark _)) (sw_or1 (st_cmp or_lt (se_ix xr_ix (se_pv (pv 6)) se_int (fun _ _ => rfl)) se_int (nomark _))))) (sss_one (ss_ret se_non)) sss_nil)) (sss_cons (ss_set (i := 8) sc__law_span.nd rfl (by first | exact Or.inl rfl | exact Or.inr rfl) (se_lst (sa_cons (se_callP (n := 2) (lo__law_through) (fun _ => (okS__law_through T)) (hr.mono (by first | decide | omega)) (by rfl) T.g__law_through (fun _ => T.F__law_through.kp) (fun _ => T.b__law_through) (sa_cons (se_pv (pv 5)) (sa_cons (se_pv (pv 7)) sa_nil))) (sa_cons (se_callP (n := 2) (lo__law_through) (fun _ => (okS__law_through T)) (hr.mono (by first | decide | omega)) (by rfl) T.g__law_through (fun _ => T.F__law_through.kp) (fun _ => T.b__law_through) (sa_cons (se_pv (pv 6)) (sa_cons (se_pv (pv 7)) sa_nil))) sa_nil))))
      (sss_cons (ss_if (st_cmp or_lt (se_ix xr_ix (se_pv (pv 7)) se_int (fun _ _ => rfl)) se_int (nomark _)) (sss_one (ss_set (i := 8) sc__law_span.nd rfl (by first | exact Or.inl rfl | exact Or.inr rfl) (se_rev (se_pv (pv 8))))) sss_nil)
      (sss_cons (ss_if (st_cmp or_gt (se_ix xr_ix (se_callP (n := 2) (lo__law_less) (fun _ => (okS__law_less T)) (hr.mono (by first | decide | omega)) (by rfl) T.g__law_less (fun _ => T.F__law_less.kp) (fun _ => T.b__law_less) (sa_cons (se_ix xr_ix (se_pv (pv 8)) se_int (fun _ _ => rfl)) (sa_cons (se_pv (pv 2)) sa_nil))) se_int (fun _ _ => rfl)) se_int (nomark _)) (sss_one (ss_set (i := 2) sc__law_span.nd rfl (by first | exact Or.inl rfl | exact Or.inr rfl) (se_ix xr_ix (se_pv (pv 8)) se_int (fun _ _ => rfl)))) sss_nil)
      (sss_one (ss_if (sw_pt (sw_or (st_cmp or_isN (se_pv (pv 3)) se_non (nomark _)) (sw_or1 (st_cmp or_lt (se_ix xr_ix (se_callP (n := 2) (lo__law_less) (fun _ => (okS__law_less T)) (hr.mono (by first | decide | omega)) (by rfl) T.g__law_less (fun _ => T.F__law_less.kp) (fun _ => T.b__law_less) (sa_cons (se_ix xr_ix (se_pv (pv 8)) se_int (fun _ _ => rfl)) (sa_cons (se_pv (pv 3)) sa_nil))) se_int (fun _ _ => rfl)) se_int (nomark _))))) (sss_one (ss_set (i := 3) sc__law_span.nd rfl (by first | exact Or.inl rfl | exact Or.inr rfl) (se_ix xr_ix (se_pv (pv 8)) se_int (fun _ _ => rfl)))) sss_nil)))))))))))
      (sss_cons (ss_if (st_cmp or_lt (se_ix xr_ix (se_callP (n := 2) (lo__law_less) (fun _ => (okS__law_less T)) (hr.mono (by first | decide | omega)) (by rfl) T.g__law_less (fun _ => T.F__law_less.kp) (fun _ => T.b__law_less) (sa_cons (se_pv (pv 3)) (sa_cons (se_pv (pv 2)) sa_nil))) se_int (fun _ _ => rfl)) se_int (nomark _)) (sss_one (ss_ret se_non)) sss_nil)
      (sss_one (ss_ret (se_tup (sa_cons (se_pv (pv 2)) (sa_cons (se_pv (pv 3)) sa_nil)))))))))
theorem okS__law_ray (T : Tx K mg) : FnOk P w K mg base CX0 5 T.f__law_ray T.d__law_ray ["_law_deck_here"] (spM ⟨K, gm T⟩ 1 m__law_ray) :=
  okG (K := ⟨K, gm T⟩) T.F__law_ray sc__law_ray (k := 4) fun cdv A outer s H E hr =>
      (sss_one (ss_ret (se_tup (sa_cons (se_callM (n := 2) (ln__law_point) (fun _ => (okS__law_point T)) (hr.mono (by first | decide | omega)) (by rfl) T.g__law_point (fun _ => T.F__law_point.kp) (fun _ => T.b__law_point) (sa_cons (se_pv (pv 0)) (sa_cons se_int sa_nil))) (sa_cons (se_callM (n := 1) (ln__law_way) (fun _ => (okS__law_way T)) (hr.mono (by first | decide | omega)) (by rfl) T.g__law_way (fun _ => T.F__law_way.kp) (fun _ => T.b__law_way) (sa_cons (se_pv (pv 0)) sa_nil)) sa_nil)))))
theorem okS__law_flat_box (T : Tx K mg) : FnOk P w K mg base CX0 5 T.f__law_flat_box T.d__law_flat_box ["_law_deck_here"] (spM ⟨K, gm T⟩ 1 m__law_flat_box) :=
  okG (K := ⟨K, gm T⟩) T.F__law_flat_box sc__law_flat_box (k := 4) fun cdv A outer s H E hr =>
      (sss_cons (ss_set (i := 1) sc__law_flat_box.nd rfl (by first | exact Or.inl rfl | exact Or.inr rfl) (se_callM (n := 2) (ln__law_point) (fun _ => (okS__law_point T)) (hr.mono (by first | decide | omega)) (by rfl) T.g__law_point (fun _ => T.F__law_point.kp) (fun _ => T.b__law_point) (sa_cons (se_pv (pv 0)) (sa_cons se_int sa_nil))))
      (sss_cons (ss_set (i := 2) sc__law_flat_box.nd rfl (by first | exact Or.inl rfl | exact Or.inr rfl) (se_callTy cr_tuple' (by rfl) T.m_tuple (by decide +kernel) (sa_cons (se_lc (own := [("_law_part_here", 3)]) sc__law_flat_box.nd (si_e (se_pv (pv 1))) (blkOk_by (own := [("_law_part_here", 3)]) (N := nm__law_flat_box) (sc := defScope s__law_flat_box) (by decide +kernel)) (fun _ _ _ _ _ => (sg_name (i := 3) (by decide) sc__law_flat_box.nd rfl (by first | exact Or.inl rfl | exact Or.inr rfl))) (fun _ _ _ _ _ => sts_nil) (fun _ _ _ _ _ => (se_callP (n := 2) (lo__law_plus) (fun _ => (okS__law_plus T)) (hr.mono (by first | decide | omega)) (by rfl) T.g__law_plus (fun _ => T.F__law_plus.kp) (fun _ => T.b__law_plus) (sa_cons (se_pv (pv 3)) (sa_cons (se_callP (n := 2) (lo__law_part) (fun _ => (okS__law_part T)) (hr.mono (by first | decide | omega)) (by rfl) T.g__law_part (fun _ => T.F__law_part.kp) (fun _ => T.b__law_part) (sa_cons (se_callM (n := 2) (ln__law_take) (fun _ => (okS__law_take T)) (hr.mono (by first | decide | omega)) (by rfl) T.g__law_take (fun _ => T.F__law_take.kp) (fun _ => T.b__law_take) (sa_cons (se_pv (pv 0)) (sa_cons se_int sa_nil))) (sa_cons (se_op or_add se_int (se_callM (n := 2) (ln__law_take) (fun _ => (okS__law_take T)) (hr.mono (by first | decide | omega)) (by rfl) T.g__law_take (fun _ => T.F__law_take.kp) (fun _ => T.b__law_take) (sa_cons (se_pv (pv 0)) (sa_cons se_int sa_nil)))) sa_nil))) sa_nil))))) sa_nil)))
      (sss_one (ss_ret (se_tup (sa_cons (se_pv (pv 1)) (sa_cons (se_pv (pv 2)) sa_nil)))))))
theorem okS__law_spot_of (T : Tx K mg) : FnOk P w K mg base CX0 4 T.f__law_spot_of T.d__law_spot_of ["_law_deck_here", "_law_box"] (spM ⟨K, gm T⟩ 2 m__law_spot_of) :=
  okG (K := ⟨K, gm T⟩) T.F__law_spot_of sc__law_spot_of (k := 3) fun cdv A outer s H E hr =>
      (sss_cons (ss_set (i := 2) sc__law_spot_of.nd rfl (by first | exact Or.inl rfl | exact Or.inr rfl) (se_lst sa_nil))
      (sss_cons (ss_for (vs := [3]) PassesOwn.never (si_range1 (by rfl) T.m_range se_int) (sg_name (i := 3) (by decide) sc__law_spot_of.nd rfl (by first | exact Or.inl rfl | exact Or.inr rfl)) (sss_cons (ss_set (i := 4) sc__law_spot_of.nd rfl (by first | exact Or.inl rfl | exact Or.inr rfl) (se_ix xr_ix (se_lst (sa_cons (se_tup (sa_cons se_int (sa_cons se_int sa_nil))) (sa_cons (se_tup (sa_cons se_int (sa_cons se_int sa_nil))) (sa_cons (se_tup (sa_cons se_int (sa_cons se_int sa_nil))) (sa_cons (se_tup (sa_cons se_int (sa_cons se_int sa_nil))) sa_nil))))) (se_callM (n := 2) (ln__law_take) (fun _ => (okS__law_take T)) (hr.mono (by first | decide | omega)) (by rfl) T.g__law_take (fun _ => T.F__law_take.kp) (fun _ => T.b__law_take) (sa_cons (se_pv (pv 0)) (sa_cons se_int sa_nil))) (fun _ _ => rfl)))
      (sss_one (ss_expr (se_app (se_pv (pv 2)) (sa_cons (se_callP (n := 2) (lo__law_plus) (fun _ => (okS__law_plus T)) (hr.mono (by first | decide | omega)) (by rfl) T.g__law_plus (fun _ => T.F__law_plus.kp) (fun _ => T.b__law_plus) (sa_cons (se_ix xr_ix (se_ix xr_ix (se_pv (pv 1)) se_int (fun _ _ => rfl)) (se_pv (pv 3)) (fun _ _ => rfl)) (sa_cons (se_callP (n := 2) (lo__law_times) (fun _ => (okS__law_times T)) (hr.mono (by first | decide | omega)) (by rfl) T.g__law_times (fun _ => T.F__law_times.kp) (fun _ => T.b__law_times) (sa_cons (se_pv (pv 4)) (sa_cons (se_callP (n := 2) (lo__law_less) (fun _ => (okS__law_less T)) (hr.mono (by first | decide | omega)) (by rfl) T.g__law_less (fun _ => T.F__law_less.kp) (fun _ => T.b__law_less) (sa_cons (se_ix xr_ix (se_ix xr_ix (se_pv (pv 1)) se_int (fun _ _ => rfl)) (se_pv (pv 3)) (fun _ _ => rfl)) (sa_cons (se_ix xr_ix (se_ix xr_ix (se_pv (pv 1)) se_int (fun _ _ => rfl)) (se_pv (pv 3)) (fun _ _ => rfl)) sa_nil))) sa_nil))) sa_nil))) sa_nil))))))
      (sss_one (ss_ret (se_callTy cr_tuple' (by rfl) T.m_tuple (by decide +kernel) (sa_cons (se_pv (pv 2)) sa_nil))))))
theorem okS__law_ray_by (T : Tx K mg) : FnOk P w K mg base CX0 5 T.f__law_ray_by T.d__law_ray_by ["_law_deck_here", "_law_box"] (spM ⟨K, gm T⟩ 2 m__law_ray_by) :=
  okG (K := ⟨K, gm T⟩) T.F__law_ray_by sc__law_ray_by (k := 4) fun cdv A outer s H E hr =>
      (sss_cons (ss_set (i := 2) sc__law_ray_by.nd rfl (by first | exact Or.inl rfl | exact Or.inr rfl) (se_callM (n := 2) (ln__law_take) (fun _ => (okS__law_take T)) (hr.mono (by first | decide | omega)) (by rfl) T.g__law_take (fun _ => T.F__law_take.kp) (fun _ => T.b__law_take) (sa_cons (se_pv (pv 0)) (sa_cons se_int sa_nil))))
      (sss_cons (ss_set (i := 3) sc__law_ray_by.nd rfl (by first | exact Or.inl rfl | exact Or.inr rfl) (se_callM (n := 2) (ln__law_point) (fun _ => (okS__law_point T)) (hr.mono (by first | decide | omega)) (by rfl) T.g__law_point (fun _ => T.F__law_point.kp) (fun _ => T.b__law_point) (sa_cons (se_pv (pv 0)) (sa_cons se_int sa_nil))))
      (sss_cons (ss_if (st_cmp (or_eq hr.units) (se_pv (pv 2)) se_int (nomark _)) (sss_one (ss_ret (se_tup (sa_cons (se_pv (pv 3)) (sa_cons (se_callM (n := 1) (ln__law_way) (fun _ => (okS__law_way T)) (hr.mono (by first | decide | omega)) (by rfl) T.g__law_way (fun _ => T.F__law_way.kp) (fun _ => T.b__law_way) (sa_cons (se_pv (pv 0)) sa_nil)) sa_nil))))) sss_nil)
      (sss_cons (ss_if (st_cmp (or_eq hr.units) (se_pv (pv 2)) se_int (nomark _)) (sss_one (ss_ret (se_tup (sa_cons (se_callM (n := 2) (ln__law_spot_of) (fun _ => (okS__law_spot_of T)) (hr.mono (by first | decide | omega)) (by rfl) T.g__law_spot_of (fun _ => T.F__law_spot_of.kp) (fun _ => T.b__law_spot_of) (sa_cons (se_pv (pv 0)) (sa_cons (se_pv (pv 1)) sa_nil))) (sa_cons (se_callM (n := 1) (ln__law_way) (fun _ => (okS__law_way T)) (hr.mono (by first | decide | omega)) (by rfl) T.g__law_way (fun _ => T.F__law_way.kp) (fun _ => T.b__law_way) (sa_cons (se_pv (pv 0)) sa_nil)) sa_nil))))) sss_nil)
      (sss_cons (ss_set (i := 4) sc__law_ray_by.nd rfl (by first | exact Or.inl rfl | exact Or.inr rfl) (se_callM (n := 2) (ln__law_spot_of) (fun _ => (okS__law_spot_of T)) (hr.mono (by first | decide | omega)) (by rfl) T.g__law_spot_of (fun _ => T.F__law_spot_of.kp) (fun _ => T.b__law_spot_of) (sa_cons (se_pv (pv 0)) (sa_cons (se_pv (pv 1)) sa_nil))))
      (sss_cons (ss_setLc (i := 5) (own := [("_law_k", 7)]) sc__law_ray_by.nd rfl rfl (sw_true rfl rfl rfl (by decide +kernel)) (si_range1 (by rfl) T.m_range se_int) (blkOk_by (own := [("_law_k", 7)]) (N := nm__law_ray_by) (sc := defScope s__law_ray_by) (by decide +kernel)) (fun _ _ _ _ _ => (sg_name (i := 7) (by decide) sc__law_ray_by.nd rfl (by first | exact Or.inl rfl | exact Or.inr rfl))) (fun _ _ _ _ _ => sts_nil) (fun _ _ _ _ _ => (se_callP (n := 2) (lo__law_less) (fun _ => (okS__law_less T)) (hr.mono (by first | decide | omega)) (by rfl) T.g__law_less (fun _ => T.F__law_less.kp) (fun _ => T.b__law_less) (sa_cons (se_ix xr_ix (se_pv (pv 4)) (se_pv (pv 7)) (fun _ _ => rfl)) (sa_cons (se_ix xr_ix (se_pv (pv 3)) (se_pv (pv 7)) (fun _ _ => rfl)) sa_nil)))))
      (sss_cons (ss_if (st_cmp (or_eq hr.units) (se_pv (pv 2)) se_int (nomark _)) (sss_cons (ss_set (i := 6) sc__law_ray_by.nd rfl (by first | exact Or.inl rfl | exact Or.inr rfl) (se_callM (n := 2) (ln__law_take) (fun _ => (okS__law_take T)) (hr.mono (by first | decide | omega)) (by rfl) T.g__law_take (fun _ => T.F__law_take.kp) (fun _ => T.b__law_take) (sa_cons (se_pv (pv 0)) (sa_cons se_int sa_nil))))
      (sss_cons (ss_sub (se_tup (sa_cons se_int (sa_cons se_int sa_nil))) (se_pv (pv 5)) (se_pv (pv 6)))
      (sss_one (ss_set (i := 3) sc__law_ray_by.nd rfl (by first | exact Or.inl rfl | exact Or.inr rfl) (se_callP (n := 3) (lo__law_put) (fun _ => (okS__law_put T)) (hr.mono (by first | decide | omega)) (by rfl) T.g__law_put (fun _ => T.F__law_put.kp) (fun _ => T.b__law_put) (sa_cons (se_pv (pv 3)) (sa_cons (se_pv (pv 6)) (sa_cons (se_ix xr_ix (se_pv (pv 4)) (se_pv (pv 6)) (fun _ _ => rfl)) sa_nil)))))))) sss_nil)
      (sss_cons (ss_if (st_cmp (or_eq hr.units) (se_pv (pv 2)) se_int (nomark _)) (sss_one (ss_setLc (i := 5) (own := [("_law_part_here", 8)]) sc__law_ray_by.nd rfl rfl (sw_true rfl rfl rfl (by decide +kernel)) (si_e (se_pv (pv 5))) (blkOk_by (own := [("_law_part_here", 8)]) (N := nm__law_ray_by) (sc := defScope s__law_ray_by) (by decide +kernel)) (fun _ _ _ _ _ => (sg_name (i := 8) (by decide) sc__law_ray_by.nd rfl (by first | exact Or.inl rfl | exact Or.inr rfl))) (fun _ _ _ _ _ => sts_nil) (fun _ _ _ _ _ => (se_tup (sa_cons (se_un ur_neg (se_ix xr_ix (se_pv (pv 8)) se_int (fun _ _ => rfl))) (sa_cons (se_ix xr_ix (se_pv (pv 8)) se_int (fun _ _ => rfl)) sa_nil)))))) sss_nil)
      (sss_cons (ss_if (st_cmp (or_eq hr.units) (se_pv (pv 5)) (se_op or_mul (se_lst (sa_cons (se_tup (sa_cons se_int (sa_cons se_int sa_nil))) sa_nil)) se_int) (nomark _)) (sss_one (ss_sub (se_tup (sa_cons (se_un ur_neg se_int) (sa_cons se_int sa_nil))) (se_pv (pv 5)) (se_callM (n := 2) (ln__law_take) (fun _ => (okS__law_take T)) (hr.mono (by first | decide | omega)) (by rfl) T.g__law_take (fun _ => T.F__law_take.kp) (fun _ => T.b__law_take) (sa_cons (se_pv (pv 0)) (sa_cons se_int sa_nil))))) sss_nil)
      (sss_one (ss_ret (se_tup (sa_cons (se_pv (pv 3)) (sa_cons (se_callTy cr_tuple' (by rfl) T.m_tuple (by decide +kernel) (sa_cons (se_pv (pv 5)) sa_nil)) sa_nil))))))))))))))
end

def sp_law (K : PySem.W.Frag) : Sp := fun vs H Q _ => ∃ (a : Addr) (ns : List Int), vs = [.ref a] ∧ Only H ∧ SqL K H a (ns.map V.int) ∧ ns.length ≤ 63 ∧ ∀ H', Q (.bl true) H'
theorem ok_law {P : Program} {w : World} {K : PySem.W.Frag} {mg : Str → Option Value} {base : Heap} {f : Addr} {fd : FuncData} (F : Fun K "law" "law" s_law f fd) (T : Tx K mg) : AtTop P w K mg base f fd ["_law_script"] (sp_law K) :=
  fun outer s H args us vs Q E e0 hb hv h => top_M (K := ⟨K, gm T⟩) (k := 5) ⟨rfl, by decide, by decide⟩ F sc_law (fun cdv A outer s H E hr hg =>
      (sss_cons (ss_set (i := 1) sc_law.nd rfl (by first | exact Or.inl rfl | exact Or.inr rfl) (se_callM (n := 1) (ln__law_deck) (fun _ => (okS__law_deck T)) (hr.mono (by first | decide | omega)) (by rfl) T.g__law_deck (fun _ => T.F__law_deck.kp) (fun _ => T.b__law_deck) (sa_cons (se_pv (pv 0)) sa_nil)))
      (sss_cons (ss_for (vs := [2]) PassesOwn.never (si_range1 (by rfl) T.m_range se_int) (sg_name (i := 2) (by decide) sc_law.nd rfl (by first | exact Or.inl rfl | exact Or.inr rfl)) (sss_cons (ss_set (i := 3) sc_law.nd rfl (by first | exact Or.inl rfl | exact Or.inr rfl) (se_callM (n := 1) (ln__law_flat_box) (fun _ => (okS__law_flat_box T)) (hr.mono (by first | decide | omega)) (by rfl) T.g__law_flat_box (fun _ => T.F__law_flat_box.kp) (fun _ => T.b__law_flat_box) (sa_cons (se_pv (pv 1)) sa_nil)))
      (sss_cons (ss_set (i := 4) sc_law.nd rfl (by first | exact Or.inl rfl | exact Or.inr rfl) (se_callM (n := 2) (ln__law_ray_by) (fun _ => (okS__law_ray_by T)) (hr.mono (by first | decide | omega)) (by rfl) T.g__law_ray_by (fun _ => T.F__law_ray_by.kp) (fun _ => T.b__law_ray_by) (sa_cons (se_pv (pv 1)) (sa_cons (se_pv (pv 3)) sa_nil))))
      (sss_one (ss_if (st_cmp (or_ne hr.units) (se_callB (cr_repr' hg hr.units) (by rfl) T.m_repr (by decide +kernel) (sa_cons (se_callP (n := 2) (lo_box_stretch) (fun _ => (okS_box_stretch T)) (hr.mono (by first | decide | omega)) (by rfl) T.g_box_stretch (fun _ => T.F_box_stretch.kp) (fun _ => T.b_box_stretch) (sa_cons (se_pv (pv 3)) (sa_cons (se_pv (pv 4)) sa_nil))) sa_nil)) (se_callB (cr_repr' hg hr.units) (by rfl) T.m_repr (by decide +kernel) (sa_cons (se_callP (n := 2) (lo__law_span) (fun _ => (okS__law_span T)) (hr.mono (by first | decide | omega)) (by rfl) T.g__law_span (fun _ => T.F__law_span.kp) (fun _ => T.b__law_span) (sa_cons (se_pv (pv 3)) (sa_cons (se_pv (pv 4)) sa_nil))) sa_nil)) (nomark _)) (sss_one (ss_ret se_bl)) sss_nil)))))
      (sss_one (ss_ret (se_cmp or_isN (se_callP (n := 2) (lo_box_stretch) (fun _ => (okS_box_stretch T)) (hr.mono (by first | decide | omega)) (by rfl) T.g_box_stretch (fun _ => T.F_box_stretch.kp) (fun _ => T.b_box_stretch) (sa_cons (se_tup sa_nil) (sa_cons (se_callM (n := 1) (ln__law_ray) (fun _ => (okS__law_ray T)) (hr.mono (by first | decide | omega)) (by rfl) T.g__law_ray (fun _ => T.F__law_ray.kp) (fun _ => T.b__law_ray) (sa_cons (se_pv (pv 1)) sa_nil)) sa_nil))) se_non (nomark _))))))) outer s H args us vs Q E e0 hb hv (law_sp (K := ⟨K, gm T⟩) law_true h)

theorem all_mk {l : PySem.W.OpenLaw} {w : World} {K : PySem.W.Frag} {h : Heap} {mg : Str → Option Value} {fa : Addr} (X : K.In h) (G : h.Ns mainGlobals mg) (hfa : mg "law" = some (.ref fa))
    {tkK0_0 : Tok}
    {tkK0_1 : Tok}
    {qK0 : Addr} {odK0 : Option Addr} {nK0 : Nat} {slK0 : Array (Option Value)} (kK0 : K.lookup qK0 = some ⟨.type "tuple", odK0, .seq #[.int (0) tkK0_0, .int (1) tkK0_1] nK0, slK0⟩)
    (gK0 : PySem.W.nsIn K mainGlobals "NOUGHT" = some (some (.ref qK0)))
    {f0 : Addr} {od0 an0 : Option Addr} {sl0 : Array (Option Value)} {oc0 kV0 dc0 pm0 cd0 ct0 : Value}
    (a0 : PySem.W.nsIn K mainGlobals "frac" = some (some (.ref f0))) (l0 : K.lookup f0 = some ⟨oc0, od0, .func (PySem.W.fnOf "frac" "frac" (defArgs s_frac) (defBody s_frac) (defScope s_frac) .none kV0 dc0 pm0 an0 cd0 ct0), sl0⟩) (c0 : PySem.W.codeIn K cd0 "frac" = true) (k0 : PySem.W.keepIn K (.ref f0) = true)
    {f1 : Addr} {od1 an1 : Option Addr} {sl1 : Array (Option Value)} {oc1 kV1 dc1 pm1 cd1 ct1 : Value}
    (a1 : PySem.W.nsIn K mainGlobals "minus" = some (some (.ref f1))) (l1 : K.lookup f1 = some ⟨oc1, od1, .func (PySem.W.fnOf "minus" "minus" (defArgs s_minus) (defBody s_minus) (defScope s_minus) .none kV1 dc1 pm1 an1 cd1 ct1), sl1⟩) (c1 : PySem.W.codeIn K cd1 "minus" = true) (k1 : PySem.W.keepIn K (.ref f1) = true)
    {f2 : Addr} {od2 an2 : Option Addr} {sl2 : Array (Option Value)} {oc2 kV2 dc2 pm2 cd2 ct2 : Value}
    (a2 : PySem.W.nsIn K mainGlobals "over" = some (some (.ref f2))) (l2 : K.lookup f2 = some ⟨oc2, od2, .func (PySem.W.fnOf "over" "over" (defArgs s_over) (defBody s_over) (defScope s_over) .none kV2 dc2 pm2 an2 cd2 ct2), sl2⟩) (c2 : PySem.W.codeIn K cd2 "over" = true) (k2 : PySem.W.keepIn K (.ref f2) = true)
    {f3 : Addr} {od3 an3 : Option Addr} {sl3 : Array (Option Value)} {oc3 kV3 dc3 pm3 cd3 ct3 : Value}
    (a3 : PySem.W.nsIn K mainGlobals "sign" = some (some (.ref f3))) (l3 : K.lookup f3 = some ⟨oc3, od3, .func (PySem.W.fnOf "sign" "sign" (defArgs s_sign) (defBody s_sign) (defScope s_sign) .none kV3 dc3 pm3 an3 cd3 ct3), sl3⟩) (c3 : PySem.W.codeIn K cd3 "sign" = true) (k3 : PySem.W.keepIn K (.ref f3) = true)
    {f4 : Addr} {od4 an4 : Option Addr} {sl4 : Array (Option Value)} {oc4 kV4 dc4 pm4 cd4 ct4 : Value}
    (a4 : PySem.W.nsIn K mainGlobals "utmost" = some (some (.ref f4))) (l4 : K.lookup f4 = some ⟨oc4, od4, .func (PySem.W.fnOf "utmost" "utmost" (defArgs s_utmost) (defBody s_utmost) (defScope s_utmost) .none kV4 dc4 pm4 an4 cd4 ct4), sl4⟩) (c4 : PySem.W.codeIn K cd4 "utmost" = true) (k4 : PySem.W.keepIn K (.ref f4) = true)
    {f5 : Addr} {od5 an5 : Option Addr} {sl5 : Array (Option Value)} {oc5 kV5 dc5 pm5 cd5 ct5 : Value}
    (a5 : PySem.W.nsIn K mainGlobals "side_moments" = some (some (.ref f5))) (l5 : K.lookup f5 = some ⟨oc5, od5, .func (PySem.W.fnOf "side_moments" "side_moments" (defArgs s_side_moments) (defBody s_side_moments) (defScope s_side_moments) .none kV5 dc5 pm5 an5 cd5 ct5), sl5⟩) (c5 : PySem.W.codeIn K cd5 "side_moments" = true) (k5 : PySem.W.keepIn K (.ref f5) = true)
    {f6 : Addr} {od6 an6 : Option Addr} {sl6 : Array (Option Value)} {oc6 kV6 dc6 pm6 cd6 ct6 : Value}
    (a6 : PySem.W.nsIn K mainGlobals "box_stretch" = some (some (.ref f6))) (l6 : K.lookup f6 = some ⟨oc6, od6, .func (PySem.W.fnOf "box_stretch" "box_stretch" (defArgs s_box_stretch) (defBody s_box_stretch) (defScope s_box_stretch) .none kV6 dc6 pm6 an6 cd6 ct6), sl6⟩) (c6 : PySem.W.codeIn K cd6 "box_stretch" = true) (k6 : PySem.W.keepIn K (.ref f6) = true)
    {f7 : Addr} {od7 an7 : Option Addr} {sl7 : Array (Option Value)} {oc7 kV7 dc7 pm7 cd7 ct7 : Value}
    (a7 : PySem.W.nsIn K mainGlobals "_law_deck" = some (some (.ref f7))) (l7 : K.lookup f7 = some ⟨oc7, od7, .func (PySem.W.fnOf "_law_deck" "_law_deck" (defArgs s__law_deck) (defBody s__law_deck) (defScope s__law_deck) .none kV7 dc7 pm7 an7 cd7 ct7), sl7⟩) (c7 : PySem.W.codeIn K cd7 "_law_deck" = true) (k7 : PySem.W.keepIn K (.ref f7) = true)
    {f8 : Addr} {od8 an8 : Option Addr} {sl8 : Array (Option Value)} {oc8 kV8 dc8 pm8 cd8 ct8 : Value}
    (a8 : PySem.W.nsIn K mainGlobals "_law_take" = some (some (.ref f8))) (l8 : K.lookup f8 = some ⟨oc8, od8, .func (PySem.W.fnOf "_law_take" "_law_take" (defArgs s__law_take) (defBody s__law_take) (defScope s__law_take) .none kV8 dc8 pm8 an8 cd8 ct8), sl8⟩) (c8 : PySem.W.codeIn K cd8 "_law_take" = true) (k8 : PySem.W.keepIn K (.ref f8) = true)
    {f9 : Addr} {od9 an9 : Option Addr} {sl9 : Array (Option Value)} {oc9 kV9 dc9 pm9 cd9 ct9 : Value}
    (a9 : PySem.W.nsIn K mainGlobals "_law_gcd" = some (some (.ref f9))) (l9 : K.lookup f9 = some ⟨oc9, od9, .func (PySem.W.fnOf "_law_gcd" "_law_gcd" (defArgs s__law_gcd) (defBody s__law_gcd) (defScope s__law_gcd) .none kV9 dc9 pm9 an9 cd9 ct9), sl9⟩) (c9 : PySem.W.codeIn K cd9 "_law_gcd" = true) (k9 : PySem.W.keepIn K (.ref f9) = true)
    {f10 : Addr} {od10 an10 : Option Addr} {sl10 : Array (Option Value)} {oc10 kV10 dc10 pm10 cd10 ct10 : Value}
    (a10 : PySem.W.nsIn K mainGlobals "_law_part" = some (some (.ref f10))) (l10 : K.lookup f10 = some ⟨oc10, od10, .func (PySem.W.fnOf "_law_part" "_law_part" (defArgs s__law_part) (defBody s__law_part) (defScope s__law_part) .none kV10 dc10 pm10 an10 cd10 ct10), sl10⟩) (c10 : PySem.W.codeIn K cd10 "_law_part" = true) (k10 : PySem.W.keepIn K (.ref f10) = true)
    {f11 : Addr} {od11 an11 : Option Addr} {sl11 : Array (Option Value)} {oc11 kV11 dc11 pm11 cd11 ct11 : Value}
    (a11 : PySem.W.nsIn K mainGlobals "_law_number" = some (some (.ref f11))) (l11 : K.lookup f11 = some ⟨oc11, od11, .func (PySem.W.fnOf "_law_number" "_law_number" (defArgs s__law_number) (defBody s__law_number) (defScope s__law_number) .none kV11 dc11 pm11 an11 cd11 ct11), sl11⟩) (c11 : PySem.W.codeIn K cd11 "_law_number" = true) (k11 : PySem.W.keepIn K (.ref f11) = true)
    {f12 : Addr} {od12 an12 : Option Addr} {sl12 : Array (Option Value)} {oc12 kV12 dc12 pm12 cd12 ct12 : Value}
    (a12 : PySem.W.nsIn K mainGlobals "_law_point" = some (some (.ref f12))) (l12 : K.lookup f12 = some ⟨oc12, od12, .func (PySem.W.fnOf "_law_point" "_law_point" (defArgs s__law_point) (defBody s__law_point) (defScope s__law_point) .none kV12 dc12 pm12 an12 cd12 ct12), sl12⟩) (c12 : PySem.W.codeIn K cd12 "_law_point" = true) (k12 : PySem.W.keepIn K (.ref f12) = true)
    {f13 : Addr} {od13 an13 : Option Addr} {sl13 : Array (Option Value)} {oc13 kV13 dc13 pm13 cd13 ct13 : Value}
    (a13 : PySem.W.nsIn K mainGlobals "_law_plus" = some (some (.ref f13))) (l13 : K.lookup f13 = some ⟨oc13, od13, .func (PySem.W.fnOf "_law_plus" "_law_plus" (defArgs s__law_plus) (defBody s__law_plus) (defScope s__law_plus) .none kV13 dc13 pm13 an13 cd13 ct13), sl13⟩) (c13 : PySem.W.codeIn K cd13 "_law_plus" = true) (k13 : PySem.W.keepIn K (.ref f13) = true)
    {f14 : Addr} {od14 an14 : Option Addr} {sl14 : Array (Option Value)} {oc14 kV14 dc14 pm14 cd14 ct14 : Value}
    (a14 : PySem.W.nsIn K mainGlobals "_law_times" = some (some (.ref f14))) (l14 : K.lookup f14 = some ⟨oc14, od14, .func (PySem.W.fnOf "_law_times" "_law_times" (defArgs s__law_times) (defBody s__law_times) (defScope s__law_times) .none kV14 dc14 pm14 an14 cd14 ct14), sl14⟩) (c14 : PySem.W.codeIn K cd14 "_law_times" = true) (k14 : PySem.W.keepIn K (.ref f14) = true)
    {f15 : Addr} {od15 an15 : Option Addr} {sl15 : Array (Option Value)} {oc15 kV15 dc15 pm15 cd15 ct15 : Value}
    (a15 : PySem.W.nsIn K mainGlobals "_law_less" = some (some (.ref f15))) (l15 : K.lookup f15 = some ⟨oc15, od15, .func (PySem.W.fnOf "_law_less" "_law_less" (defArgs s__law_less) (defBody s__law_less) (defScope s__law_less) .none kV15 dc15 pm15 an15 cd15 ct15), sl15⟩) (c15 : PySem.W.codeIn K cd15 "_law_less" = true) (k15 : PySem.W.keepIn K (.ref f15) = true)
    {f16 : Addr} {od16 an16 : Option Addr} {sl16 : Array (Option Value)} {oc16 kV16 dc16 pm16 cd16 ct16 : Value}
    (a16 : PySem.W.nsIn K mainGlobals "_law_way" = some (some (.ref f16))) (l16 : K.lookup f16 = some ⟨oc16, od16, .func (PySem.W.fnOf "_law_way" "_law_way" (defArgs s__law_way) (defBody s__law_way) (defScope s__law_way) .none kV16 dc16 pm16 an16 cd16 ct16), sl16⟩) (c16 : PySem.W.codeIn K cd16 "_law_way" = true) (k16 : PySem.W.keepIn K (.ref f16) = true)
    {f17 : Addr} {od17 an17 : Option Addr} {sl17 : Array (Option Value)} {oc17 kV17 dc17 pm17 cd17 ct17 : Value}
    (a17 : PySem.W.nsIn K mainGlobals "_law_put" = some (some (.ref f17))) (l17 : K.lookup f17 = some ⟨oc17, od17, .func (PySem.W.fnOf "_law_put" "_law_put" (defArgs s__law_put) (defBody s__law_put) (defScope s__law_put) .none kV17 dc17 pm17 an17 cd17 ct17), sl17⟩) (c17 : PySem.W.codeIn K cd17 "_law_put" = true) (k17 : PySem.W.keepIn K (.ref f17) = true)
    {f18 : Addr} {od18 an18 : Option Addr} {sl18 : Array (Option Value)} {oc18 kV18 dc18 pm18 cd18 ct18 : Value}
    (a18 : PySem.W.nsIn K mainGlobals "_law_through" = some (some (.ref f18))) (l18 : K.lookup f18 = some ⟨oc18, od18, .func (PySem.W.fnOf "_law_through" "_law_through" (defArgs s__law_through) (defBody s__law_through) (defScope s__law_through) .none kV18 dc18 pm18 an18 cd18 ct18), sl18⟩) (c18 : PySem.W.codeIn K cd18 "_law_through" = true) (k18 : PySem.W.keepIn K (.ref f18) = true)
    {f19 : Addr} {od19 an19 : Option Addr} {sl19 : Array (Option Value)} {oc19 kV19 dc19 pm19 cd19 ct19 : Value}
    (a19 : PySem.W.nsIn K mainGlobals "_law_span" = some (some (.ref f19))) (l19 : K.lookup f19 = some ⟨oc19, od19, .func (PySem.W.fnOf "_law_span" "_law_span" (defArgs s__law_span) (defBody s__law_span) (defScope s__law_span) .none kV19 dc19 pm19 an19 cd19 ct19), sl19⟩) (c19 : PySem.W.codeIn K cd19 "_law_span" = true) (k19 : PySem.W.keepIn K (.ref f19) = true)
    {f20 : Addr} {od20 an20 : Option Addr} {sl20 : Array (Option Value)} {oc20 kV20 dc20 pm20 cd20 ct20 : Value}
    (a20 : PySem.W.nsIn K mainGlobals "_law_ray" = some (some (.ref f20))) (l20 : K.lookup f20 = some ⟨oc20, od20, .func (PySem.W.fnOf "_law_ray" "_law_ray" (defArgs s__law_ray) (defBody s__law_ray) (defScope s__law_ray) .none kV20 dc20 pm20 an20 cd20 ct20), sl20⟩) (c20 : PySem.W.codeIn K cd20 "_law_ray" = true) (k20 : PySem.W.keepIn K (.ref f20) = true)
    {f21 : Addr} {od21 an21 : Option Addr} {sl21 : Array (Option Value)} {oc21 kV21 dc21 pm21 cd21 ct21 : Value}
    (a21 : PySem.W.nsIn K mainGlobals "_law_flat_box" = some (some (.ref f21))) (l21 : K.lookup f21 = some ⟨oc21, od21, .func (PySem.W.fnOf "_law_flat_box" "_law_flat_box" (defArgs s__law_flat_box) (defBody s__law_flat_box) (defScope s__law_flat_box) .none kV21 dc21 pm21 an21 cd21 ct21), sl21⟩) (c21 : PySem.W.codeIn K cd21 "_law_flat_box" = true) (k21 : PySem.W.keepIn K (.ref f21) = true)
    {f22 : Addr} {od22 an22 : Option Addr} {sl22 : Array (Option Value)} {oc22 kV22 dc22 pm22 cd22 ct22 : Value}
    (a22 : PySem.W.nsIn K mainGlobals "_law_spot_of" = some (some (.ref f22))) (l22 : K.lookup f22 = some ⟨oc22, od22, .func (PySem.W.fnOf "_law_spot_of" "_law_spot_of" (defArgs s__law_spot_of) (defBody s__law_spot_of) (defScope s__law_spot_of) .none kV22 dc22 pm22 an22 cd22 ct22), sl22⟩) (c22 : PySem.W.codeIn K cd22 "_law_spot_of" = true) (k22 : PySem.W.keepIn K (.ref f22) = true)
    {f23 : Addr} {od23 an23 : Option Addr} {sl23 : Array (Option Value)} {oc23 kV23 dc23 pm23 cd23 ct23 : Value}
    (a23 : PySem.W.nsIn K mainGlobals "_law_ray_by" = some (some (.ref f23))) (l23 : K.lookup f23 = some ⟨oc23, od23, .func (PySem.W.fnOf "_law_ray_by" "_law_ray_by" (defArgs s__law_ray_by) (defBody s__law_ray_by) (defScope s__law_ray_by) .none kV23 dc23 pm23 an23 cd23 ct23), sl23⟩) (c23 : PySem.W.codeIn K cd23 "_law_ray_by" = true) (k23 : PySem.W.keepIn K (.ref f23) = true)
    {f24 : Addr} {od24 an24 : Option Addr} {sl24 : Array (Option Value)} {oc24 kV24 dc24 pm24 cd24 ct24 : Value}
    (a24 : PySem.W.nsIn K mainGlobals "law" = some (some (.ref f24))) (l24 : K.lookup f24 = some ⟨oc24, od24, .func (PySem.W.fnOf "law" "law" (defArgs s_law) (defBody s_law) (defScope s_law) .none kV24 dc24 pm24 an24 cd24 ct24), sl24⟩) (c24 : PySem.W.codeIn K cd24 "law" = true) (k24 : PySem.W.keepIn K (.ref f24) = true)
    (z0 : PySem.W.nsIn K mainGlobals "abs" = some none)
    (z1 : PySem.W.nsIn K mainGlobals "int" = some none)
    (z2 : PySem.W.nsIn K mainGlobals "len" = some none)
    (z3 : PySem.W.nsIn K mainGlobals "range" = some none)
    (z4 : PySem.W.nsIn K mainGlobals "repr" = some none)
    (z5 : PySem.W.nsIn K mainGlobals "tuple" = some none)
    (z6 : PySem.W.nsIn K mainGlobals "zip" = some none)
    : ∃ fd : FuncData, (∀ (s : Shared) (v : Value), BindsTo s fd ⟨[v], []⟩ [("_law_script", v)]) ∧ ∀ base : Heap, K.In base → base.Ns mainGlobals mg → AtTop l.prog w K mg base fa fd ["_law_script"] (sp_law K) := by
  have e := hfa.symm.trans (PySem.W.mg_of X G a24)
  cases e
  have F0 := fun_mk (st := s_frac) l0 c0 k0
  have b0 := F0.binds (ps := ["above", "below"]) fun _ _ _ _ _ _ us hl => match us, hl with | [_, _], _ => rfl
  have F1 := fun_mk (st := s_minus) l1 c1 k1
  have b1 := F1.binds (ps := ["one", "other"]) fun _ _ _ _ _ _ us hl => match us, hl with | [_, _], _ => rfl
  have F2 := fun_mk (st := s_over) l2 c2 k2
  have b2 := F2.binds (ps := ["one", "other"]) fun _ _ _ _ _ _ us hl => match us, hl with | [_, _], _ => rfl
  have F3 := fun_mk (st := s_sign) l3 c3 k3
  have b3 := F3.binds (ps := ["one"]) fun _ _ _ _ _ _ us hl => match us, hl with | [_], _ => rfl
  have F4 := fun_mk (st := s_utmost) l4 c4 k4
  have b4 := F4.binds (ps := ["numbers", "side"]) fun _ _ _ _ _ _ us hl => match us, hl with | [_, _], _ => rfl
  have F5 := fun_mk (st := s_side_moments) l5 c5 k5
  have b5 := F5.binds (ps := ["low", "high", "at", "along"]) fun _ _ _ _ _ _ us hl => match us, hl with | [_, _, _, _], _ => rfl
  have F6 := fun_mk (st := s_box_stretch) l6 c6 k6
  have b6 := F6.binds (ps := ["box", "ray"]) fun _ _ _ _ _ _ us hl => match us, hl with | [_, _], _ => rfl
  have F7 := fun_mk (st := s__law_deck) l7 c7 k7
  have b7 := F7.binds (ps := ["_law_script"]) fun _ _ _ _ _ _ us hl => match us, hl with | [_], _ => rfl
  have F8 := fun_mk (st := s__law_take) l8 c8 k8
  have b8 := F8.binds (ps := ["_law_deck_here", "_law_many"]) fun _ _ _ _ _ _ us hl => match us, hl with | [_, _], _ => rfl
  have F9 := fun_mk (st := s__law_gcd) l9 c9 k9
  have b9 := F9.binds (ps := ["_law_one", "_law_other"]) fun _ _ _ _ _ _ us hl => match us, hl with | [_, _], _ => rfl
  have F10 := fun_mk (st := s__law_part) l10 c10 k10
  have b10 := F10.binds (ps := ["_law_top", "_law_bottom"]) fun _ _ _ _ _ _ us hl => match us, hl with | [_, _], _ => rfl
  have F11 := fun_mk (st := s__law_number) l11 c11 k11
  have b11 := F11.binds (ps := ["_law_deck_here", "_law_far"]) fun _ _ _ _ _ _ us hl => match us, hl with | [_, _], _ => rfl
  have F12 := fun_mk (st := s__law_point) l12 c12 k12
  have b12 := F12.binds (ps := ["_law_deck_here", "_law_far"]) fun _ _ _ _ _ _ us hl => match us, hl with | [_, _], _ => rfl
  have F13 := fun_mk (st := s__law_plus) l13 c13 k13
  have b13 := F13.binds (ps := ["_law_one", "_law_other"]) fun _ _ _ _ _ _ us hl => match us, hl with | [_, _], _ => rfl
  have F14 := fun_mk (st := s__law_times) l14 c14 k14
  have b14 := F14.binds (ps := ["_law_one", "_law_other"]) fun _ _ _ _ _ _ us hl => match us, hl with | [_, _], _ => rfl
  have F15 := fun_mk (st := s__law_less) l15 c15 k15
  have b15 := F15.binds (ps := ["_law_one", "_law_other"]) fun _ _ _ _ _ _ us hl => match us, hl with | [_, _], _ => rfl
  have F16 := fun_mk (st := s__law_way) l16 c16 k16
  have b16 := F16.binds (ps := ["_law_deck_here"]) fun _ _ _ _ _ _ us hl => match us, hl with | [_], _ => rfl
  have F17 := fun_mk (st := s__law_put) l17 c17 k17
  have b17 := F17.binds (ps := ["_law_row", "_law_at", "_law_thing"]) fun _ _ _ _ _ _ us hl => match us, hl with | [_, _, _], _ => rfl
  have F18 := fun_mk (st := s__law_through) l18 c18 k18
  have b18 := F18.binds (ps := ["_law_one", "_law_other"]) fun _ _ _ _ _ _ us hl => match us, hl with | [_, _], _ => rfl
  have F19 := fun_mk (st := s__law_span) l19 c19 k19
  have b19 := F19.binds (ps := ["_law_box", "_law_ray_here"]) fun _ _ _ _ _ _ us hl => match us, hl with | [_, _], _ => rfl
  have F20 := fun_mk (st := s__law_ray) l20 c20 k20
  have b20 := F20.binds (ps := ["_law_deck_here"]) fun _ _ _ _ _ _ us hl => match us, hl with | [_], _ => rfl
  have F21 := fun_mk (st := s__law_flat_box) l21 c21 k21
  have b21 := F21.binds (ps := ["_law_deck_here"]) fun _ _ _ _ _ _ us hl => match us, hl with | [_], _ => rfl
  have F22 := fun_mk (st := s__law_spot_of) l22 c22 k22
  have b22 := F22.binds (ps := ["_law_deck_here", "_law_box"]) fun _ _ _ _ _ _ us hl => match us, hl with | [_, _], _ => rfl
  have F23 := fun_mk (st := s__law_ray_by) l23 c23 k23
  have b23 := F23.binds (ps := ["_law_deck_here", "_law_box"]) fun _ _ _ _ _ _ us hl => match us, hl with | [_, _], _ => rfl
  have F24 := fun_mk (st := s_law) l24 c24 k24
  have T : Tx K mg := ⟨qK0, PySem.W.mg_of X G gK0, fun Γ as H => (vr_written kK0 (by show 2 ≤ sizeLine; decide) (.cons (.int (0)) (.cons (.int (1)) .nil)) (.cons ⟨_, rfl⟩ (.cons ⟨_, rfl⟩ .nil))), f0, _, F0, b0, PySem.W.mg_of X G a0, f1, _, F1, b1, PySem.W.mg_of X G a1, f2, _, F2, b2, PySem.W.mg_of X G a2, f3, _, F3, b3, PySem.W.mg_of X G a3, f4, _, F4, b4, PySem.W.mg_of X G a4, f5, _, F5, b5, PySem.W.mg_of X G a5, f6, _, F6, b6, PySem.W.mg_of X G a6, f7, _, F7, b7, PySem.W.mg_of X G a7, f8, _, F8, b8, PySem.W.mg_of X G a8, f9, _, F9, b9, PySem.W.mg_of X G a9, f10, _, F10, b10, PySem.W.mg_of X G a10, f11, _, F11, b11, PySem.W.mg_of X G a11, f12, _, F12, b12, PySem.W.mg_of X G a12, f13, _, F13, b13, PySem.W.mg_of X G a13, f14, _, F14, b14, PySem.W.mg_of X G a14, f15, _, F15, b15, PySem.W.mg_of X G a15, f16, _, F16, b16, PySem.W.mg_of X G a16, f17, _, F17, b17, PySem.W.mg_of X G a17, f18, _, F18, b18, PySem.W.mg_of X G a18, f19, _, F19, b19, PySem.W.mg_of X G a19, f20, _, F20, b20, PySem.W.mg_of X G a20, f21, _, F21, b21, PySem.W.mg_of X G a21, f22, _, F22, b22, PySem.W.mg_of X G a22, f23, _, F23, b23, PySem.W.mg_of X G a23, PySem.W.mg_none_of X G z0, PySem.W.mg_none_of X G z1, PySem.W.mg_none_of X G z2, PySem.W.mg_none_of X G z3, PySem.W.mg_none_of X G z4, PySem.W.mg_none_of X G z5, PySem.W.mg_none_of X G z6⟩
  exact ⟨PySem.W.fnOf "law" "law" (defArgs s_law) (defBody s_law) (defScope s_law) .none kV24 dc24 pm24 an24 cd24 ct24, fun s v => .of_eq rfl, fun base _ _ => ok_law F24 T⟩
end Sc
open PySem PySem.W PyProof.Rows
set_option maxHeartbeats 0 in
theorem PySem.Challenge.cw_scenetongue_k57_boxes_along_rays_holds : PySem.Challenge.rw_scenetongue_k57_boxes_along_rays.Holds := by
  w_on; o_law; k_head; (case hw => w_witness2)
  k_fill
  refine Sc.walk_top (l := PySem.Challenge.rw_scenetongue_k57_boxes_along_rays) (n := 63) (x := "_law_script") (sp := fun w => Sc.sp_law _) rfl (by decide) rfl (fun w h Y => PySem.W.kIn_of Y) ?F (fun _ _ a ns hl hO hS => ⟨a, ns, rfl, hO, hS, hl, fun _ => rfl⟩)
  case F =>
    intro w mg fa h KX G hmg
    refine' Sc.all_mk KX G hmg ?kK0 ?gK0 ?a0 ?l0 ?c0 ?k0 ?a1 ?l1 ?c1 ?k1 ?a2 ?l2 ?c2 ?k2 ?a3 ?l3 ?c3 ?k3 ?a4 ?l4 ?c4 ?k4 ?a5 ?l5 ?c5 ?k5 ?a6 ?l6 ?c6 ?k6 ?a7 ?l7 ?c7 ?k7 ?a8 ?l8 ?c8 ?k8 ?a9 ?l9 ?c9 ?k9 ?a10 ?l10 ?c10 ?k10 ?a11 ?l11 ?c11 ?k11 ?a12 ?l12 ?c12 ?k12 ?a13 ?l13 ?c13 ?k13 ?a14 ?l14 ?c14 ?k14 ?a15 ?l15 ?c15 ?k15 ?a16 ?l16 ?c16 ?k16 ?a17 ?l17 ?c17 ?k17 ?a18 ?l18 ?c18 ?k18 ?a19 ?l19 ?c19 ?k19 ?a20 ?l20 ?c20 ?k20 ?a21 ?l21 ?c21 ?k21 ?a22 ?l22 ?c22 ?k22 ?a23 ?l23 ?c23 ?k23 ?a24 ?l24 ?c24 ?k24 ?z0 ?z1 ?z2 ?z3 ?z4 ?z5 ?z6
    (case gK0 => k_is); (case kK0 => k_is); (case a0 => k_is); (case l0 => k_is); (case c0 => k_is); (case k0 => k_is); (case a1 => k_is); (case l1 => k_is); (case c1 => k_is); (case k1 => k_is); (case a2 => k_is); (case l2 => k_is); (case c2 => k_is); (case k2 => k_is); (case a3 => k_is); (case l3 => k_is); (case c3 => k_is); (case k3 => k_is); (case a4 => k_is); (case l4 => k_is); (case c4 => k_is); (case k4 => k_is); (case a5 => k_is); (case l5 => k_is); (case c5 => k_is); (case k5 => k_is); (case a6 => k_is); (case l6 => k_is); (case c6 => k_is); (case k6 => k_is); (case a7 => k_is); (case l7 => k_is); (case c7 => k_is); (case k7 => k_is); (case a8 => k_is); (case l8 => k_is); (case c8 => k_is); (case k8 => k_is); (case a9 => k_is); (case l9 => k_is); (case c9 => k_is); (case k9 => k_is); (case a10 => k_is); (case l10 => k_is); (case c10 => k_is); (case k10 => k_is); (case a11 => k_is); (case l11 => k_is); (case c11 => k_is); (case k11 => k_is); (case a12 => k_is); (case l12 => k_is); (case c12 => k_is); (case k12 => k_is); (case a13 => k_is); (case l13 => k_is); (case c13 => k_is); (case k13 => k_is); (case a14 => k_is); (case l14 => k_is); (case c14 => k_is); (case k14 => k_is); (case a15 => k_is); (case l15 => k_is); (case c15 => k_is); (case k15 => k_is); (case a16 => k_is); (case l16 => k_is); (case c16 => k_is); (case k16 => k_is); (case a17 => k_is); (case l17 => k_is); (case c17 => k_is); (case k17 => k_is); (case a18 => k_is); (case l18 => k_is); (case c18 => k_is); (case k18 => k_is); (case a19 => k_is); (case l19 => k_is); (case c19 => k_is); (case k19 => k_is); (case a20 => k_is); (case l20 => k_is); (case c20 => k_is); (case k20 => k_is); (case a21 => k_is); (case l21 => k_is); (case c21 => k_is); (case k21 => k_is); (case a22 => k_is); (case l22 => k_is); (case c22 => k_is); (case k22 => k_is); (case a23 => k_is); (case l23 => k_is); (case c23 => k_is); (case k23 => k_is); (case a24 => k_is); (case l24 => k_is); (case c24 => k_is); (case k24 => k_is); (case z0 => k_is); (case z1 => k_is); (case z2 => k_is); (case z3 => k_is); (case z4 => k_is); (case z5 => k_is); (case z6 => k_is)
