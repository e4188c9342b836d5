import PyProof.Rows.All
import Wide.All
import OpenK.AllK
import Wide.FinOn
import HandS.ForMost
import HandS.Wide
import HandS.WideBits
import HandS.IsInst
import HandS.Walk
import HandS.Zip
import HandS.Style
import PySem.Challenge.RW_scenetongue_k06_whole_one_order
set_option Elab.async false
set_option linter.all false
set_option maxRecDepth 100000
set_option maxHeartbeats 4000000

namespace Sc
open PySem PySem.Spec PyProof.Rows L2

/-! ### a class without __init__ -/
structure MkO (K : PySem.W.Frag) (C : Addr) : Prop where
  makes : PySem.W.makesIn K C = true
  init : PySem.W.findIn K (.ref C) "__init__" = some (some (.builtin "object.__init__"))
  kp : PySem.W.keepIn K (.ref C) = true
def tMakeO (C : Addr) : TE := fun σ H Q => ∀ x dx, H x = none → H dx = none → dx ≠ x → Q (.ref x) (upd (upd H dx (.own x)) x (.ins C dx []))
theorem run_makeO {X : Cx} {C : Addr} {pins : List (Addr × Obj)} {σ : L2.St} {H : Hp} {s : Shared} {Q : VK} (M : MkO X.K C) (I : Inv X pins σ H s)
    (h : ∀ x dx, H x = none → H dx = none → dx ≠ x → Q (.ref x) (upd (upd H dx (.own x)) x (.ins C dx []))) :
    wpAny (model X.prog X.w) X.A (call (.ref C) []) (EP X pins σ Q) X.xe s := by
  have hq := h (s.heap.objs.size + 1) s.heap.objs.size (I.hok.fresh (Nat.le_succ _)) (I.hok.fresh (Nat.le_refl _)) (Nat.ne_of_lt (Nat.lt_succ_self _))
  have I2 := Inv.made (C := C) I
  refine wpAny_call (make_map0 I.kIn M.makes M.init (fun self => PySem.W.Looks.of_pure (PySem.W.oi_bind self)) ?_)
  have Y := PySem.W.makes_of (M := model X.prog X.w) I.kIn M.makes
  have e2 : ((s.heap.push PySem.W.emptyDict).push (PySem.W.instObj C s.heap.objs.size)).get? (s.heap.objs.size + 1) = some (PySem.W.instObj C s.heap.objs.size) := by
    have := Heap.get?_push_size (s.heap.push PySem.W.emptyDict) (o := PySem.W.instObj C s.heap.objs.size) rfl
    rwa [Heap.size_push] at this
  have t1 : PySem.W.Looks (model X.prog X.w) ((s.heap.push PySem.W.emptyDict).push (PySem.W.instObj C s.heap.objs.size)) (typeOf (.ref (s.heap.objs.size + 1))) (.ref C) := (PySem.W.Looks.ld e2).andThen .now
  have t2 : PySem.W.Looks (model X.prog X.w) ((s.heap.push PySem.W.emptyDict).push (PySem.W.instObj C s.heap.objs.size)) (isInstance (.ref (s.heap.objs.size + 1)) (.type "object")) true := t1.andThen (Y.top.keeps fun b o e => Heap.get?_push_of_some _ (Heap.get?_push_of_some _ e))
  refine codeAny_call_builtin PySem.W.oi_plain PySem.W.entry_oi (@PySem.W.check_slot (model X.prog X.w) _ _ _ "object.__init__" "object" "__init__" (.ref (s.heap.objs.size + 1)) [] [] _ PySem.W.oi_kind PySem.W.oi_split t2 (PySem.W.oi_args (.ref (s.heap.objs.size + 1))) ?_)
  rw [PySem.W.oi_run]
  exact wpAny_pure (And.intro rfl ⟨V.ref (s.heap.objs.size + 1), _, I2, rfl, hq⟩)
theorem pe_makeO {X : Cx} {C : Addr} {x : Str} {p pos : Pos} (M : MkO X.K C) (hg : Gl X x) (hm : X.mg x = some (.ref C)) (hdb : (x == ("__debug__" : Str)) = false := by decide) : PE X (.Call (.Name x p) [] [] pos) (tMakeO C) := by
  refine ⟨fun pins s σ H Q I h => ?_⟩
  refine wpAny_Call_Name_kw (ld_glob I hg hm ?_ hdb)
  exact PySem.W.callWith_K0 I.kIn M.kp (run_makeO M I h)

def topS (i : Nat) : Stmt := PySem.Challenge.pw_scenetongue_k06_whole_one_order.main.body.getD i (.Pass ⟨0, 0, 0, 0⟩)
abbrev s_Whole_nought : Stmt := inClass (topS 1) 0
abbrev nm_Whole_nought : List Str := ["self"]
theorem sc_Whole_nought : FnScope nm_Whole_nought ["self"] (defScope s_Whole_nought) := ⟨rfl, rfl, rfl, by decide +kernel, rfl, by decide +kernel, by decide +kernel⟩
abbrev s_Whole_plus : Stmt := inClass (topS 1) 1
abbrev nm_Whole_plus : List Str := ["self", "one", "other"]
theorem sc_Whole_plus : FnScope nm_Whole_plus ["self", "one", "other"] (defScope s_Whole_plus) := ⟨rfl, rfl, rfl, by decide +kernel, rfl, by decide +kernel, by decide +kernel⟩
abbrev s_Whole_times : Stmt := inClass (topS 1) 2
abbrev nm_Whole_times : List Str := ["self", "one", "other"]
theorem sc_Whole_times : FnScope nm_Whole_times ["self", "one", "other"] (defScope s_Whole_times) := ⟨rfl, rfl, rfl, by decide +kernel, rfl, by decide +kernel, by decide +kernel⟩
abbrev s_Whole_scaled : Stmt := inClass (topS 1) 3
abbrev nm_Whole_scaled : List Str := ["self", "one", "by"]
theorem sc_Whole_scaled : FnScope nm_Whole_scaled ["self", "one", "by"] (defScope s_Whole_scaled) := ⟨rfl, rfl, rfl, by decide +kernel, rfl, by decide +kernel, by decide +kernel⟩
abbrev s_Whole_sign : Stmt := inClass (topS 1) 4
abbrev nm_Whole_sign : List Str := ["self", "one"]
theorem sc_Whole_sign : FnScope nm_Whole_sign ["self", "one"] (defScope s_Whole_sign) := ⟨rfl, rfl, rfl, by decide +kernel, rfl, by decide +kernel, by decide +kernel⟩
abbrev s_Rooted___init__ : Stmt := inClass (topS 2) 0
abbrev nm_Rooted___init__ : List Str := ["self", "below", "under"]
theorem sc_Rooted___init__ : FnScope nm_Rooted___init__ ["self", "below", "under"] (defScope s_Rooted___init__) := ⟨rfl, rfl, rfl, by decide +kernel, rfl, by decide +kernel, by decide +kernel⟩
abbrev s_Rooted_nought : Stmt := inClass (topS 2) 1
abbrev nm_Rooted_nought : List Str := ["self"]
theorem sc_Rooted_nought : FnScope nm_Rooted_nought ["self"] (defScope s_Rooted_nought) := ⟨rfl, rfl, rfl, by decide +kernel, rfl, by decide +kernel, by decide +kernel⟩
abbrev s_Rooted_lifted : Stmt := inClass (topS 2) 2
abbrev nm_Rooted_lifted : List Str := ["self", "one"]
theorem sc_Rooted_lifted : FnScope nm_Rooted_lifted ["self", "one"] (defScope s_Rooted_lifted) := ⟨rfl, rfl, rfl, by decide +kernel, rfl, by decide +kernel, by decide +kernel⟩
abbrev s_Rooted_plus : Stmt := inClass (topS 2) 3
abbrev nm_Rooted_plus : List Str := ["self", "one", "other"]
theorem sc_Rooted_plus : FnScope nm_Rooted_plus ["self", "one", "other"] (defScope s_Rooted_plus) := ⟨rfl, rfl, rfl, by decide +kernel, rfl, by decide +kernel, by decide +kernel⟩
abbrev s_Rooted_times : Stmt := inClass (topS 2) 4
abbrev nm_Rooted_times : List Str := ["self", "one", "other", "below", "rooted", "plain", "part"]
theorem sc_Rooted_times : FnScope nm_Rooted_times ["self", "one", "other"] (defScope s_Rooted_times) := ⟨rfl, rfl, rfl, by decide +kernel, rfl, by decide +kernel, by decide +kernel⟩
abbrev s_Rooted_scaled : Stmt := inClass (topS 2) 5
abbrev nm_Rooted_scaled : List Str := ["self", "one", "by"]
theorem sc_Rooted_scaled : FnScope nm_Rooted_scaled ["self", "one", "by"] (defScope s_Rooted_scaled) := ⟨rfl, rfl, rfl, by decide +kernel, rfl, by decide +kernel, by decide +kernel⟩
abbrev s_Rooted_sign : Stmt := inClass (topS 2) 6
abbrev nm_Rooted_sign : List Str := ["self", "one", "below", "plain", "part", "first", "second", "square", "left"]
theorem sc_Rooted_sign : FnScope nm_Rooted_sign ["self", "one"] (defScope s_Rooted_sign) := ⟨rfl, rfl, rfl, by decide +kernel, rfl, by decide +kernel, by decide +kernel⟩
abbrev s_compare : Stmt := topS 4
abbrev nm_compare : List Str := ["one", "other", "plain", "part", "under", "other_plain", "other_part", "other_under", "gap", "shared", "mine", "yours", "first", "second", "sum_of_two"]
theorem sc_compare : FnScope nm_compare ["one", "other"] (defScope s_compare) := ⟨rfl, rfl, rfl, by decide +kernel, rfl, by decide +kernel, by decide +kernel⟩
abbrev s__law_cell : Stmt := topS 6
abbrev nm__law_cell : List Str := ["_law_script", "_law_k"]
theorem sc__law_cell : FnScope nm__law_cell ["_law_script", "_law_k"] (defScope s__law_cell) := ⟨rfl, rfl, rfl, by decide +kernel, rfl, by decide +kernel, by decide +kernel⟩
abbrev s__law_mixed : Stmt := topS 7
abbrev nm__law_mixed : List Str := ["_law_script", "_law_k", "_law_many", "_law_number_here"]
theorem sc__law_mixed : FnScope nm__law_mixed ["_law_script", "_law_k", "_law_many"] (defScope s__law_mixed) := ⟨rfl, rfl, rfl, by decide +kernel, rfl, by decide +kernel, by decide +kernel⟩
abbrev s__law_deck : Stmt := topS 8
abbrev nm__law_deck : List Str := ["_law_script", "_law_part"]
theorem sc__law_deck : FnScope nm__law_deck ["_law_script"] (defScope s__law_deck) := ⟨rfl, rfl, rfl, by decide +kernel, rfl, by decide +kernel, by decide +kernel⟩
abbrev s__law_take : Stmt := topS 9
abbrev nm__law_take : List Str := ["_law_deck_here", "_law_many", "_law_part"]
theorem sc__law_take : FnScope nm__law_take ["_law_deck_here", "_law_many"] (defScope s__law_take) := ⟨rfl, rfl, rfl, by decide +kernel, rfl, by decide +kernel, by decide +kernel⟩
abbrev s__law_gcd : Stmt := topS 10
abbrev nm__law_gcd : List Str := ["_law_one", "_law_other"]
theorem sc__law_gcd : FnScope nm__law_gcd ["_law_one", "_law_other"] (defScope s__law_gcd) := ⟨rfl, rfl, rfl, by decide +kernel, rfl, by decide +kernel, by decide +kernel⟩
abbrev s__law_share : Stmt := topS 11
abbrev nm__law_share : List Str := ["_law_top", "_law_bottom", "_law_part"]
theorem sc__law_share : FnScope nm__law_share ["_law_top", "_law_bottom"] (defScope s__law_share) := ⟨rfl, rfl, rfl, by decide +kernel, rfl, by decide +kernel, by decide +kernel⟩
abbrev s__law_plus : Stmt := topS 12
abbrev nm__law_plus : List Str := ["_law_one", "_law_other"]
theorem sc__law_plus : FnScope nm__law_plus ["_law_one", "_law_other"] (defScope s__law_plus) := ⟨rfl, rfl, rfl, by decide +kernel, rfl, by decide +kernel, by decide +kernel⟩
abbrev s__law_times : Stmt := topS 13
abbrev nm__law_times : List Str := ["_law_one", "_law_other"]
theorem sc__law_times : FnScope nm__law_times ["_law_one", "_law_other"] (defScope s__law_times) := ⟨rfl, rfl, rfl, by decide +kernel, rfl, by decide +kernel, by decide +kernel⟩
abbrev s__law_figures : Stmt := topS 14
abbrev nm__law_figures : List Str := ["_law_deck_here", "_law_kind"]
theorem sc__law_figures : FnScope nm__law_figures ["_law_deck_here"] (defScope s__law_figures) := ⟨rfl, rfl, rfl, by decide +kernel, rfl, by decide +kernel, by decide +kernel⟩
abbrev s__law_fraction : Stmt := topS 15
abbrev nm__law_fraction : List Str := ["_law_deck_here", "_law_top"]
theorem sc__law_fraction : FnScope nm__law_fraction ["_law_deck_here"] (defScope s__law_fraction) := ⟨rfl, rfl, rfl, by decide +kernel, rfl, by decide +kernel, by decide +kernel⟩
abbrev s__law_number : Stmt := topS 16
abbrev nm__law_number : List Str := ["_law_deck_here", "_law_p", "_law_q", "_law_kind", "_law_side", "_law_top"]
theorem sc__law_number : FnScope nm__law_number ["_law_deck_here"] (defScope s__law_number) := ⟨rfl, rfl, rfl, by decide +kernel, rfl, by decide +kernel, by decide +kernel⟩
abbrev s__law_moved : Stmt := topS 17
abbrev nm__law_moved : List Str := ["_law_number_here", "_law_more", "_law_size", "_law_p", "_law_q", "_law_d"]
theorem sc__law_moved : FnScope nm__law_moved ["_law_number_here", "_law_more", "_law_size"] (defScope s__law_moved) := ⟨rfl, rfl, rfl, by decide +kernel, rfl, by decide +kernel, by decide +kernel⟩
abbrev s__law_same_written : Stmt := topS 18
abbrev nm__law_same_written : List Str := ["_law_deck_here", "_law_number_here", "_law_p", "_law_q", "_law_d", "_law_part"]
theorem sc__law_same_written : FnScope nm__law_same_written ["_law_deck_here", "_law_number_here"] (defScope s__law_same_written) := ⟨rfl, rfl, rfl, by decide +kernel, rfl, by decide +kernel, by decide +kernel⟩
abbrev s_law : Stmt := topS 19
abbrev nm_law : List Str := ["_law_script", "_law_deck_here", "_law_some", "_law_more", "_law_size", "_law_below", "_law_k", "_law_j", "_law_found", "_law_due", "_law_other", "_law_one"]
theorem sc_law : FnScope nm_law ["_law_script"] (defScope s_law) := ⟨rfl, rfl, rfl, by decide +kernel, rfl, by decide +kernel, by decide +kernel⟩
structure Tx (K : PySem.W.Frag) (mg : Str → Option Value) where
  c_Whole : Addr
  cl_Whole : Cls K c_Whole
  g_Whole : mg "Whole" = some (.ref c_Whole)
  c_Rooted : Addr
  cl_Rooted : Cls K c_Rooted
  g_Rooted : mg "Rooted" = some (.ref c_Rooted)
  n_Rooted_below : NoAttr K c_Rooted "below"
  n_Rooted_under : NoAttr K c_Rooted "under"
  f_Whole_nought : Addr
  d_Whole_nought : FuncData
  F_Whole_nought : Fun K "nought" "Whole.nought" s_Whole_nought f_Whole_nought d_Whole_nought
  b_Whole_nought : Binds K d_Whole_nought ["self"] []
  M_Whole_nought : Meth K c_Whole "nought" f_Whole_nought
  f_Whole_plus : Addr
  d_Whole_plus : FuncData
  F_Whole_plus : Fun K "plus" "Whole.plus" s_Whole_plus f_Whole_plus d_Whole_plus
  b_Whole_plus : Binds K d_Whole_plus ["self", "one", "other"] []
  M_Whole_plus : Meth K c_Whole "plus" f_Whole_plus
  f_Whole_times : Addr
  d_Whole_times : FuncData
  F_Whole_times : Fun K "times" "Whole.times" s_Whole_times f_Whole_times d_Whole_times
  b_Whole_times : Binds K d_Whole_times ["self", "one", "other"] []
  M_Whole_times : Meth K c_Whole "times" f_Whole_times
  f_Whole_scaled : Addr
  d_Whole_scaled : FuncData
  F_Whole_scaled : Fun K "scaled" "Whole.scaled" s_Whole_scaled f_Whole_scaled d_Whole_scaled
  b_Whole_scaled : Binds K d_Whole_scaled ["self", "one", "by"] []
  M_Whole_scaled : Meth K c_Whole "scaled" f_Whole_scaled
  f_Whole_sign : Addr
  d_Whole_sign : FuncData
  F_Whole_sign : Fun K "sign" "Whole.sign" s_Whole_sign f_Whole_sign d_Whole_sign
  b_Whole_sign : Binds K d_Whole_sign ["self", "one"] []
  M_Whole_sign : Meth K c_Whole "sign" f_Whole_sign
  f_Rooted___init__ : Addr
  d_Rooted___init__ : FuncData
  F_Rooted___init__ : Fun K "__init__" "Rooted.__init__" s_Rooted___init__ f_Rooted___init__ d_Rooted___init__
  b_Rooted___init__ : Binds K d_Rooted___init__ ["self", "below", "under"] []
  mk_Rooted : Mk K c_Rooted f_Rooted___init__
  f_Rooted_nought : Addr
  d_Rooted_nought : FuncData
  F_Rooted_nought : Fun K "nought" "Rooted.nought" s_Rooted_nought f_Rooted_nought d_Rooted_nought
  b_Rooted_nought : Binds K d_Rooted_nought ["self"] []
  M_Rooted_nought : Meth K c_Rooted "nought" f_Rooted_nought
  f_Rooted_lifted : Addr
  d_Rooted_lifted : FuncData
  F_Rooted_lifted : Fun K "lifted" "Rooted.lifted" s_Rooted_lifted f_Rooted_lifted d_Rooted_lifted
  b_Rooted_lifted : Binds K d_Rooted_lifted ["self", "one"] []
  M_Rooted_lifted : Meth K c_Rooted "lifted" f_Rooted_lifted
  f_Rooted_plus : Addr
  d_Rooted_plus : FuncData
  F_Rooted_plus : Fun K "plus" "Rooted.plus" s_Rooted_plus f_Rooted_plus d_Rooted_plus
  b_Rooted_plus : Binds K d_Rooted_plus ["self", "one", "other"] []
  M_Rooted_plus : Meth K c_Rooted "plus" f_Rooted_plus
  f_Rooted_times : Addr
  d_Rooted_times : FuncData
  F_Rooted_times : Fun K "times" "Rooted.times" s_Rooted_times f_Rooted_times d_Rooted_times
  b_Rooted_times : Binds K d_Rooted_times ["self", "one", "other"] []
  M_Rooted_times : Meth K c_Rooted "times" f_Rooted_times
  f_Rooted_scaled : Addr
  d_Rooted_scaled : FuncData
  F_Rooted_scaled : Fun K "scaled" "Rooted.scaled" s_Rooted_scaled f_Rooted_scaled d_Rooted_scaled
  b_Rooted_scaled : Binds K d_Rooted_scaled ["self", "one", "by"] []
  M_Rooted_scaled : Meth K c_Rooted "scaled" f_Rooted_scaled
  f_Rooted_sign : Addr
  d_Rooted_sign : FuncData
  F_Rooted_sign : Fun K "sign" "Rooted.sign" s_Rooted_sign f_Rooted_sign d_Rooted_sign
  b_Rooted_sign : Binds K d_Rooted_sign ["self", "one"] []
  M_Rooted_sign : Meth K c_Rooted "sign" f_Rooted_sign
  f_compare : Addr
  d_compare : FuncData
  F_compare : Fun K "compare" "compare" s_compare f_compare d_compare
  b_compare : Binds K d_compare ["one", "other"] []
  g_compare : mg "compare" = some (.ref f_compare)
  f__law_cell : Addr
  d__law_cell : FuncData
  F__law_cell : Fun K "_law_cell" "_law_cell" s__law_cell f__law_cell d__law_cell
  b__law_cell : Binds K d__law_cell ["_law_script", "_law_k"] []
  g__law_cell : mg "_law_cell" = some (.ref f__law_cell)
  f__law_mixed : Addr
  d__law_mixed : FuncData
  F__law_mixed : Fun K "_law_mixed" "_law_mixed" s__law_mixed f__law_mixed d__law_mixed
  b__law_mixed : Binds K d__law_mixed ["_law_script", "_law_k", "_law_many"] []
  g__law_mixed : mg "_law_mixed" = some (.ref f__law_mixed)
  f__law_deck : Addr
  d__law_deck : FuncData
  F__law_deck : Fun K "_law_deck" "_law_deck" s__law_deck f__law_deck d__law_deck
  b__law_deck : Binds K d__law_deck ["_law_script"] []
  g__law_deck : mg "_law_deck" = some (.ref f__law_deck)
  f__law_take : Addr
  d__law_take : FuncData
  F__law_take : Fun K "_law_take" "_law_take" s__law_take f__law_take d__law_take
  b__law_take : Binds K d__law_take ["_law_deck_here", "_law_many"] []
  g__law_take : mg "_law_take" = some (.ref f__law_take)
  f__law_gcd : Addr
  d__law_gcd : FuncData
  F__law_gcd : Fun K "_law_gcd" "_law_gcd" s__law_gcd f__law_gcd d__law_gcd
  b__law_gcd : Binds K d__law_gcd ["_law_one", "_law_other"] []
  g__law_gcd : mg "_law_gcd" = some (.ref f__law_gcd)
  f__law_share : Addr
  d__law_share : FuncData
  F__law_share : Fun K "_law_share" "_law_share" s__law_share f__law_share d__law_share
  b__law_share : Binds K d__law_share ["_law_top", "_law_bottom"] []
  g__law_share : mg "_law_share" = some (.ref f__law_share)
  f__law_plus : Addr
  d__law_plus : FuncData
  F__law_plus : Fun K "_law_plus" "_law_plus" s__law_plus f__law_plus d__law_plus
  b__law_plus : Binds K d__law_plus ["_law_one", "_law_other"] []
  g__law_plus : mg "_law_plus" = some (.ref f__law_plus)
  f__law_times : Addr
  d__law_times : FuncData
  F__law_times : Fun K "_law_times" "_law_times" s__law_times f__law_times d__law_times
  b__law_times : Binds K d__law_times ["_law_one", "_law_other"] []
  g__law_times : mg "_law_times" = some (.ref f__law_times)
  f__law_figures : Addr
  d__law_figures : FuncData
  F__law_figures : Fun K "_law_figures" "_law_figures" s__law_figures f__law_figures d__law_figures
  b__law_figures : Binds K d__law_figures ["_law_deck_here"] []
  g__law_figures : mg "_law_figures" = some (.ref f__law_figures)
  f__law_fraction : Addr
  d__law_fraction : FuncData
  F__law_fraction : Fun K "_law_fraction" "_law_fraction" s__law_fraction f__law_fraction d__law_fraction
  b__law_fraction : Binds K d__law_fraction ["_law_deck_here"] []
  g__law_fraction : mg "_law_fraction" = some (.ref f__law_fraction)
  f__law_number : Addr
  d__law_number : FuncData
  F__law_number : Fun K "_law_number" "_law_number" s__law_number f__law_number d__law_number
  b__law_number : Binds K d__law_number ["_law_deck_here"] []
  g__law_number : mg "_law_number" = some (.ref f__law_number)
  f__law_moved : Addr
  d__law_moved : FuncData
  F__law_moved : Fun K "_law_moved" "_law_moved" s__law_moved f__law_moved d__law_moved
  b__law_moved : Binds K d__law_moved ["_law_number_here", "_law_more", "_law_size"] []
  g__law_moved : mg "_law_moved" = some (.ref f__law_moved)
  f__law_same_written : Addr
  d__law_same_written : FuncData
  F__law_same_written : Fun K "_law_same_written" "_law_same_written" s__law_same_written f__law_same_written d__law_same_written
  b__law_same_written : Binds K d__law_same_written ["_law_deck_here", "_law_number_here"] []
  g__law_same_written : mg "_law_same_written" = some (.ref f__law_same_written)
  mk_Whole : MkO K c_Whole
  m_abs : mg "abs" = none
  m_int : mg "int" = none
  m_len : mg "len" = none
  m_max : mg "max" = none
  m_range : mg "range" = none

/-- the greatest common divisor with the sign of b -/
def sg (a b : Int) : Int := if b < 0 then -(Int.gcd a b : Int) else (Int.gcd a b : Int)
/-- the loop of frac between two turns -/
def GInv (a b x y : Int) : Prop := Int.gcd x y = Int.gcd a b ∧ ((0 < b ∧ 0 ≤ y ∧ y < x ∧ x ≤ b) ∨ (b < 0 ∧ y ≤ 0 ∧ x < y ∧ b ≤ x))
theorem gcd_step (x y : Int) : Int.gcd y (x.fmod y) = Int.gcd x y := by
  rw [Int.fmod_def, Int.mul_comm, Int.gcd_sub_mul_right_right, Int.gcd_comm]
theorem fmod_pos {x y : Int} (h : 0 < y) : 0 ≤ x.fmod y ∧ x.fmod y < y := ⟨Int.fmod_nonneg_of_pos x h, Int.fmod_lt_of_pos x h⟩
theorem fmod_neg {x y : Int} (h : y < 0) : x.fmod y ≤ 0 ∧ y < x.fmod y := by
  have h' : 0 < -y := by omega
  have e := Int.neg_fmod_neg (-x) (-y)
  rw [Int.neg_neg, Int.neg_neg] at e
  have h1 := Int.fmod_nonneg_of_pos (-x) h'
  have h2 := Int.fmod_lt_of_pos (-x) h'
  omega
theorem GInv.start {a b : Int} (hb : b ≠ 0) : GInv a b b (a.fmod b) := by
  refine ⟨gcd_step a b, ?_⟩
  by_cases hp : 0 < b
  · have := @fmod_pos a b hp
    exact .inl ⟨hp, by omega, by omega, Int.le_refl _⟩
  · have hn : b < 0 := by omega
    have := @fmod_neg a b hn
    exact .inr ⟨hn, by omega, by omega, Int.le_refl _⟩
theorem GInv.next {a b x y : Int} (h : GInv a b x y) (hy : y ≠ 0) : GInv a b y (x.fmod y) ∧ (x.fmod y).natAbs < y.natAbs := by
  obtain ⟨hg, hs⟩ := h
  rcases hs with ⟨h1, h2, h3, h4⟩ | ⟨h1, h2, h3, h4⟩
  · have f := @fmod_pos x y (by omega)
    exact ⟨⟨by rw [gcd_step, hg], .inl ⟨h1, by omega, by omega, by omega⟩⟩, by omega⟩
  · have f := @fmod_neg x y (by omega)
    exact ⟨⟨by rw [gcd_step, hg], .inr ⟨h1, by omega, by omega, by omega⟩⟩, by omega⟩
theorem GInv.fin {a b x : Int} (h : GInv a b x 0) : x = sg a b := by
  obtain ⟨hg, hs⟩ := h
  rw [Int.gcd_zero_right] at hg
  unfold sg
  rw [← hg]
  split <;> omega
theorem GInv.ne {a b x y : Int} (h : GInv a b x y) : x ≠ 0 ∧ x.natAbs ≤ b.natAbs := by
  obtain ⟨hg, hs⟩ := h
  omega
/-- the law's own: without signs -/
def HInv (a b x y : Int) : Prop := Int.gcd x y = Int.gcd a b ∧ 0 ≤ x ∧ 0 ≤ y
theorem HInv.next {a b x y : Int} (h : HInv a b x y) (hy : 0 < y) : HInv a b y (x.fmod y) ∧ (x.fmod y).natAbs < y.natAbs := by
  obtain ⟨hg, hx, _⟩ := h
  have f := @fmod_pos x y hy
  exact ⟨⟨by rw [gcd_step, hg], by omega, f.1⟩, by omega⟩
theorem HInv.fin {a b x y : Int} (h : HInv a b x y) (hy : ¬ 0 < y) : x = (Int.gcd a b : Int) := by
  obtain ⟨hg, hx, h3⟩ := h
  have e : y = 0 := by omega
  subst e
  rw [Int.gcd_zero_right] at hg
  omega
theorem gcd_abs (a b : Int) : Int.gcd (if a < 0 then -a else a) (if b < 0 then -b else b) = Int.gcd a b := by
  have h : ∀ z : Int, (if z < 0 then -z else z).natAbs = z.natAbs := fun z => by split <;> omega
  unfold Int.gcd
  rw [h, h]
theorem sg_ne {a b : Int} (hb : b ≠ 0) : sg a b ≠ 0 ∧ (sg a b).natAbs ≤ b.natAbs := by
  have h1 : 0 < Int.gcd a b := Int.gcd_pos_of_ne_zero_right a hb
  have h2 : Int.gcd a b ≤ b.natAbs := Nat.le_of_dvd (by omega) (Int.gcd_dvd_natAbs_right a b)
  unfold sg
  split <;> omega
theorem sg_num {a b : Int} (hb : b ≠ 0) : a.fdiv (sg a b) = (Rat.divInt a b).num := by
  rw [Rat.num_divInt, Int.gcd_comm]
  have d : ((Int.gcd a b : Nat) : Int) ∣ a := Int.gcd_dvd_left a b
  unfold sg
  by_cases h : b < 0
  · rw [if_pos h, Int.sign_eq_neg_one_of_neg h, Int.fdiv_eq_ediv_of_dvd (Int.neg_dvd.mpr d), Int.ediv_neg, Int.neg_mul, Int.one_mul, Int.neg_ediv_of_dvd d]
  · rw [if_neg h, Int.fdiv_eq_ediv_of_dvd d]
    rw [Int.sign_eq_one_of_pos (by omega), Int.one_mul]
theorem sg_den {a b : Int} (hb : b ≠ 0) : b.fdiv (sg a b) = ((Rat.divInt a b).den : Int) := by
  rw [Rat.den_divInt, if_neg hb, Int.gcd_comm b a]
  have d : ((Int.gcd a b : Nat) : Int) ∣ b := Int.gcd_dvd_right a b
  unfold sg
  by_cases h : b < 0
  · rw [if_pos h, Int.fdiv_eq_ediv_of_dvd (Int.neg_dvd.mpr d), Int.ediv_neg, ← Int.neg_ediv_of_dvd d, Int.natCast_ediv]
    congr 1
    omega
  · rw [if_neg h, Int.fdiv_eq_ediv_of_dvd d, Int.natCast_ediv]
    congr 1
    omega

/-! ### sizes -/
def Bt (n : Nat) (x : Int) : Prop := x.natAbs < 2 ^ n
theorem Bt.mono {m n : Nat} {x : Int} (h : Bt m x) (hn : m ≤ n) : Bt n x := Nat.lt_of_lt_of_le h (Nat.pow_le_pow_right (by decide) hn)
theorem Bt.le {n : Nat} {x y : Int} (hy : Bt n y) (h : x.natAbs ≤ y.natAbs) : Bt n x := Nat.lt_of_le_of_lt h hy
theorem Bt.mul {m n : Nat} {x y : Int} (hx : Bt m x) (hy : Bt n y) : Bt (m + n) (x * y) := by
  unfold Bt at *
  rw [Int.natAbs_mul, Nat.pow_add]
  exact Nat.mul_lt_mul'' hx hy
theorem Bt.add {n : Nat} {x y : Int} (hx : Bt n x) (hy : Bt n y) : Bt (n + 1) (x + y) := by
  unfold Bt at *
  rw [Nat.pow_succ]
  omega
theorem Bt.neg {n : Nat} {x : Int} (hx : Bt n x) : Bt n (-x) := by
  unfold Bt at *
  rw [Int.natAbs_neg]
  exact hx
theorem Bt.sub {n : Nat} {x y : Int} (hx : Bt n x) (hy : Bt n y) : Bt (n + 1) (x - y) := by
  unfold Bt at *
  rw [Nat.pow_succ]
  omega
/-- a fraction's two parts -/
def Rb (n : Nat) (q : Rat) : Prop := Bt n q.num ∧ Bt n (q.den : Int)
theorem Rb.mono {m n : Nat} {q : Rat} (h : Rb m q) (hn : m ≤ n) : Rb n q := ⟨h.1.mono hn, h.2.mono hn⟩
theorem den_ne (q : Rat) : ((q.den : Nat) : Int) ≠ 0 := by
  have := q.den_pos
  omega
theorem rb_div {n : Nat} {a b : Int} (hb : b ≠ 0) (h1 : Bt n a) (h2 : Bt n b) : Rb n (Rat.divInt a b) := by
  have hs := (sg_ne (a := a) hb).1
  have e1 : a.fdiv (sg a b) * sg a b = a := Int.fdiv_mul_cancel (by
    unfold sg
    split
    · exact Int.neg_dvd.mpr (Int.gcd_dvd_left a b)
    · exact Int.gcd_dvd_left a b)
  have e2 : b.fdiv (sg a b) * sg a b = b := Int.fdiv_mul_cancel (by
    unfold sg
    split
    · exact Int.neg_dvd.mpr (Int.gcd_dvd_right a b)
    · exact Int.gcd_dvd_right a b)
  have k : ∀ x y : Int, x * sg a b = y → x.natAbs ≤ y.natAbs := fun x y e => by
    rw [← e, Int.natAbs_mul]
    exact Nat.le_mul_of_pos_right _ (by omega)
  rw [sg_num hb] at e1
  rw [sg_den hb] at e2
  exact ⟨h1.le (k _ _ e1), h2.le (k _ _ e2)⟩
theorem rat_sum (q r : Rat) : Rat.divInt (q.num * r.den + r.num * q.den) (q.den * r.den) = q + r := by
  rw [← Rat.divInt_add_divInt _ _ (den_ne q) (den_ne r), Rat.num_divInt_den, Rat.num_divInt_den]
theorem rat_less (q r : Rat) : Rat.divInt (q.num * r.den - r.num * q.den) (q.den * r.den) = q - r := by
  rw [← Rat.divInt_sub_divInt _ _ (den_ne q) (den_ne r), Rat.num_divInt_den, Rat.num_divInt_den]
theorem rat_prod (q r : Rat) : Rat.divInt (q.num * r.num) (q.den * r.den) = q * r := by
  rw [← Rat.divInt_mul_divInt, Rat.num_divInt_den, Rat.num_divInt_den]
theorem rat_quot (q r : Rat) : Rat.divInt (q.num * r.den) (q.den * r.num) = q / r := by
  rw [Rat.div_def, Rat.inv_def, ← Rat.divInt_mul_divInt, Rat.num_divInt_den]
theorem Rb.add {m n : Nat} {q r : Rat} (hq : Rb m q) (hr : Rb n r) : Rb (m + n + 1) (q + r) := by
  rw [← rat_sum]
  exact rb_div (Int.mul_ne_zero (den_ne q) (den_ne r)) ((hq.1.mul hr.2).add ((hr.1.mul hq.2).mono (by omega))) ((hq.2.mul hr.2).mono (by omega))
theorem Rb.sub {m n : Nat} {q r : Rat} (hq : Rb m q) (hr : Rb n r) : Rb (m + n + 1) (q - r) := by
  rw [← rat_less]
  exact rb_div (Int.mul_ne_zero (den_ne q) (den_ne r)) ((hq.1.mul hr.2).sub ((hr.1.mul hq.2).mono (by omega))) ((hq.2.mul hr.2).mono (by omega))
theorem Rb.mul {m n : Nat} {q r : Rat} (hq : Rb m q) (hr : Rb n r) : Rb (m + n) (q * r) := by
  rw [← rat_prod]
  exact rb_div (Int.mul_ne_zero (den_ne q) (den_ne r)) (hq.1.mul hr.1) (hq.2.mul hr.2)
theorem num_ne {r : Rat} (h : r ≠ 0) : r.num ≠ 0 := fun e => h (Rat.num_eq_zero.mp e)
theorem Rb.div {m n : Nat} {q r : Rat} (hq : Rb m q) (hr : Rb n r) (h : r ≠ 0) : Rb (m + n) (q / r) := by
  rw [← rat_quot]
  exact rb_div (Int.mul_ne_zero (den_ne q) (num_ne h)) (hq.1.mul hr.2) (hq.2.mul hr.1)

/-! ### rules of numbers -/
section
variable {X : Cx}
theorem op_fdX : OpR X (binaryOp .FloorDiv) (rI (fun _ j => j ≠ 0 ∧ Bt 9000 j) fun i j => .int (i.fdiv j)) := opI fun _ _ _ _ _ _ _ hc q =>
  floordiv_int hc.1 q (.inl (PyProof.noPylong_of_log2 (PySem.Flt.log2_lt_of (by decide) hc.2)))
end
/-! the rules within a comprehension: the written part by name -/
section
variable {X : Cx} {K : PySem.W.Frag}
theorem call_isiC (h : X.K = K) : CallR X (.builtin "isinstance") (rIsi K) := h ▸ call_isi
theorem ix_listC (h : X.K = K) : IxR X (rIxL K) := h ▸ ix_list
theorem ix_tupC (h : X.K = K) : IxR X (rIxT K) := h ▸ ix_tup
theorem call_len_seqC (h : X.K = K) : CallR X (.builtin "len") (fun xs H Q => ∃ p ys, xs = [.ref p] ∧ (SqL K H p ys ∨ SqT K H p ys) ∧ Q (.int ys.length) H) := h ▸ call_len_seq
theorem pg_tupC {es : List Expr} {k : Nat} {t : TGs} {n : Nat} {pos : Pos} (hK : X.K = K) (hc : X.calm = true) (h : PGs X es t) (hn : (assignEach es X.env).length = n := by rfl) (hst : (assignEach es X.env).findIdx? (·.1) = none := by rfl) : PG X (.Tuple es k pos) (gTup K n t) := hK ▸ pg_tup hc h hn hst
theorem pi_listC {tg l : Expr} {tl : TE} (hK : X.K = K) (hl : PE X l tl) : PI X tg l (iList K tl) := hK ▸ pi_list hl
theorem pi_tupC {tg l : Expr} {tl : TE} (hK : X.K = K) (hl : PE X l tl) : PI X tg l (iTup K tl) := hK ▸ pi_tup hl
theorem op_eqDC (h : X.K = K) (hu : X.A.units + 64 < cLine) : OpR X (compareOp .Eq) (rEqD K) := h ▸ op_eqD hu
theorem op_neDC (h : X.K = K) (hu : X.A.units + 64 < cLine) : OpR X (compareOp .NotEq) (rNeD K) := h ▸ op_neD hu
end
theorem bt_lit {n : Nat} {x : Int} (h : x.natAbs < 2 ^ n) : Bt n x := h
theorem ite_yes {c A B : Prop} [Decidable c] (h : c) (a : A) : if c then A else B := by
  rw [if_pos h]
  exact a
theorem ite_no {c A B : Prop} [Decidable c] (h : ¬ c) (a : B) : if c then A else B := by
  rw [if_neg h]
  exact a
theorem sz_n {n : Nat} (h : n ≤ 1000) : n ≤ sizeLine := Nat.le_trans h (by decide)
/-! ### readings, one by one -/
theorem rd_v {i : Nat} {v : V} {σ : L2.St} {H : Hp} {Q : VK} (h : σ[i]? = some (some v)) (q : Q v H) : tVar i σ H Q := ⟨v, h, q⟩
theorem rd_c {v : V} {σ : L2.St} {H : Hp} {Q : VK} (q : Q v H) : tC v σ H Q := q
theorem rd_yes {σ : L2.St} {H : Hp} {Q : Bool → Hp → Prop} (q : Q true H) : tYes σ H Q := q
theorem rd_ixT {K : PySem.W.Frag} {i : Nat} {p : Addr} {xs : List V} {j : Int} {v : V} {σ : L2.St} {H : Hp} {Q : VK} (h : σ[i]? = some (some (.ref p))) (hp : H p = some (.tup xs)) (ha : atI xs j = some v) (q : Q v H) :
    tOp (rIxT K) (tVar i) (tC (.int j)) σ H Q := ⟨.ref p, h, p, xs, j, v, rfl, rfl, SqT.of hp, ha, q⟩
theorem rd_ixL {K : PySem.W.Frag} {i : Nat} {p : Addr} {xs : List V} {j : Int} {v : V} {σ : L2.St} {H : Hp} {Q : VK} (h : σ[i]? = some (some (.ref p))) (hp : H p = some (.lst xs)) (ha : atI xs j = some v) (q : Q v H) :
    tOp (rIxL K) (tVar i) (tC (.int j)) σ H Q := ⟨.ref p, h, p, xs, j, v, rfl, rfl, SqL.of hp, ha, q⟩
theorem rd_mul {m n : Nat} {i j : Int} {H : Hp} {Q : VK} (hm : Bt m i) (hn : Bt n j) (h : m + n ≤ 134217728) (q : Q (.int (i * j)) H) : rI CMulX (fun i j => .int (i * j)) (.int i) (.int j) H Q := ⟨i, j, rfl, rfl, mulx_ok hm hn h, q⟩
theorem rd_i0 {g : Int → Int → V} {i j : Int} {H : Hp} {Q : VK} (q : Q (g i j) H) : rI0 g (.int i) (.int j) H Q := ⟨i, j, rfl, rfl, q⟩
theorem rd_eqi {i j : Int} {H : Hp} {Q : VK} (q : Q (.bl (decide (i = j))) H) : rEq (.int i) (.int j) H Q := by
  refine ⟨rfl, ?_⟩
  have e : decide (V.int i = V.int j) = decide (i = j) := by
    by_cases h : i = j
    · rw [decide_eq_true h, decide_eq_true (congrArg V.int h)]
    · rw [decide_eq_false h, decide_eq_false fun z => h (V.int.inj z)]
  rw [e]
  exact q
theorem rd_asg {te : TE} {g : TG} {rest : TS} {D : Ends} {σ : L2.St} {H : Hp} (q : te σ H fun v H1 => g v σ H1 (rest D)) : tSeq (tAsg te g) rest D σ H := q
theorem rd_op {r : R2} {ta tb : TE} {σ : L2.St} {H : Hp} {Q : VK} (q : ta σ H fun x H1 => tb σ H1 fun y H2 => r x y H2 Q) : tOp r ta tb σ H Q := q
theorem rd_lst {t : TA} {σ : L2.St} {H : Hp} {Q : VK} (q : t σ H fun xs H1 => xs.length ≤ sizeLine ∧ ∀ p, H1 p = none → Q (.ref p) (upd H1 p (.lst xs))) : tLst t σ H Q := q
def forK (g : TG) (tb : TS) (D : Ends) (σ0 : L2.St) : It → Hp → Prop := fun J H1 => ∃ W : Nat → Nat → L2.St → Hp → Prop, (∃ m, W 0 m σ0 H1) ∧ ∀ i m σ H, W i m σ H →
  (J.stop i H ∧ D.nx σ H) ∨ (J.go i H ∧ ∃ N : L2.St → Hp → Prop, (∀ σ' H', N σ' H' → ∃ m', m' < m ∧ W (i + 1) m' σ' H') ∧ ∀ x H', J.yld i H x H' → g x σ H' fun σ2 H2 => tb { D with nx := N, ct := N, bk := D.nx } σ2 H2)
theorem rd_for {wi : TI} {g : TG} {tb : TS} {D : Ends} {σ : L2.St} {H : Hp} (q : wi σ H (forK g tb D σ)) : tFor wi g tb D σ H := q
theorem rd_forS {wi : TI} {g : TG} {tb rest : TS} {D : Ends} {σ : L2.St} {H : Hp} (q : wi σ H (forK g tb { D with nx := rest D } σ)) : tSeq (tFor wi g tb) rest D σ H := q
theorem rd_iL {K : PySem.W.Frag} {tl : TE} {σ : L2.St} {H : Hp} {R : It → Hp → Prop} (q : tl σ H fun x H1 => ∃ a, x = .ref a ∧ (∃ xs, SqL K H1 a xs) ∧ R (Itl K a) H1) : iList K tl σ H R := q
theorem rd_cons {te : TE} {ta : TA} {σ : L2.St} {H : Hp} {Q : List V → Hp → Prop} (q : te σ H fun x H1 => ta σ H1 fun xs H2 => Q (x :: xs) H2) : tCons te ta σ H Q := q
theorem rd_ret {te : TE} {D : Ends} {σ : L2.St} {H : Hp} (q : te σ H D.rt) : tRet te D σ H := q
theorem rd_tup {t : TA} {σ : L2.St} {H : Hp} {Q : VK} (q : t σ H fun xs H1 => xs.length ≤ sizeLine ∧ ∀ p, H1 p = none → Q (.ref p) (upd H1 p (.tup xs))) : tTup t σ H Q := q
/-! ### heaps -/
theorem same_upd {H : Hp} {p : Addr} {o : HO} (h : H p = none) : Same H (upd H p o) := fun b x e => by
  rw [upd_ne (ne_of_none e h)]
  exact e
theorem same_tup {K : PySem.W.Frag} {H H' : Hp} {a : Addr} {xs : List V} (e : Same H H') (h : SqT K H a xs) : SqT K H' a xs := by
  rcases h with (h | ⟨o, h⟩) | h
  · exact .inl (.inl (e _ _ h))
  · exact .inl (.inr ⟨o, e _ _ h⟩)
  · exact .inr h
/-- a fraction as it stands -/
def FrV (H : Hp) (v : V) (q : Rat) : Prop := ∃ p, v = .ref p ∧ H p = some (.tup [.int q.num, .int (q.den : Int)])
theorem FrV.same {H H' : Hp} {v : V} {q : Rat} (e : Same H H') (h : FrV H v q) : FrV H' v q := by
  obtain ⟨p, rfl, h⟩ := h
  exact ⟨p, rfl, e _ _ h⟩
theorem frv_new {H : Hp} {p : Addr} {a b : Int} {q : Rat} (e1 : a = q.num) (e2 : b = (q.den : Int)) : FrV (upd H p (.tup [.int a, .int b])) (.ref p) q := by
  subst e1 e2
  exact ⟨p, rfl, upd_same⟩
theorem FrV.dp {K : PySem.W.Frag} {H : Hp} {v : V} {q : Rat} (h : FrV H v q) : Dp K H v (.tuple [.int q.num, .int (q.den : Int)]) := by
  obtain ⟨p, rfl, h⟩ := h
  exact Dp.tup (SqT.of h) (DpAll.cons (Dp.int _) (DpAll.cons (Dp.int _) DpAll.nil))
theorem nd_ne {a b : V} (e : (!decide (a = b)) = true) : a ≠ b := fun z => by
  rw [decide_eq_true z] at e
  cases e
theorem nd_eq {a b : V} (e : ¬ (!decide (a = b)) = true) : a = b := Decidable.byContradiction fun z => e (by
  rw [decide_eq_false z]
  rfl)
theorem eqv2 (x y a b : Int) : PyData.eqv (.tuple [.int x, .int y]) (.tuple [.int a, .int b]) = (decide (x = a) && decide (y = b)) := by
  simp [PyData.eqv, PyData.eqvAll, Bool.beq_eq_decide_eq]
/-! ### the deck: all else stands -/
def Keep (d l : Addr) (H H' : Hp) : Prop := ∀ a o, H a = some o → a ≠ d → a ≠ l → H' a = some o
theorem Keep.refl {d l : Addr} {H : Hp} : Keep d l H H := fun _ _ h _ _ => h
theorem Keep.trans {d l : Addr} {H H1 H2 : Hp} (a : Keep d l H H1) (b : Keep d l H1 H2) : Keep d l H H2 := fun x o h h1 h2 => b x o (a x o h h1 h2) h1 h2
theorem same_keep {d l : Addr} {H H' : Hp} (e : Same H H') : Keep d l H H' := fun a o h _ _ => e a o h
theorem keep_d {d l : Addr} {H : Hp} {o : HO} : Keep d l H (upd H d o) := fun a u h h1 _ => by
  rw [upd_ne h1]
  exact h
theorem keep_l {d l : Addr} {H : Hp} {o : HO} : Keep d l H (upd H l o) := fun a u h _ h2 => by
  rw [upd_ne h2]
  exact h
theorem keep_new {d l p : Addr} {H : Hp} {o : HO} (h : H p = none) : Keep d l H (upd H p o) := same_keep (same_upd h)
theorem Keep.sq {K : PySem.W.Frag} {d l s : Addr} {H H' : Hp} {xs : List V} (k : Keep d l H H') (h1 : s ≠ d) (h2 : s ≠ l) (h : SqL K H s xs) : SqL K H' s xs := by
  rcases h with (h | ⟨o, h⟩) | h
  · exact .inl (.inl (k _ _ h h1 h2))
  · exact .inl (.inr ⟨o, k _ _ h h1 h2⟩)
  · exact .inr h
/-- the script: of the written part, or tracked beside the deck -/
def Sct (K : PySem.W.Frag) (H : Hp) (d l s : Addr) (xs : List V) : Prop := (∀ H', SqL K H' s xs) ∨ (SqL K H s xs ∧ s ≠ d ∧ s ≠ l)
theorem Sct.sq {K : PySem.W.Frag} {H : Hp} {d l s : Addr} {xs : List V} (h : Sct K H d l s xs) : SqL K H s xs := by
  rcases h with h | h
  · exact h H
  · exact h.1
theorem Sct.keep {K : PySem.W.Frag} {H H' : Hp} {d l s : Addr} {xs : List V} (h : Sct K H d l s xs) (k : Keep d l H H') : Sct K H' d l s xs := by
  rcases h with h | ⟨h, h1, h2⟩
  · exact .inl h
  · exact .inr ⟨k.sq h1 h2 h, h1, h2⟩
theorem sct_of {K : PySem.W.Frag} {H H' : Hp} {d l s : Addr} {xs : List V} (h : SqL K H s xs) (e : Same H H') (nd : H d = none) (nl : H l = none) : Sct K H' d l s xs := by
  rcases h with (h | ⟨o, h⟩) | h
  · exact .inr ⟨.inl (.inl (e _ _ h)), ne_of_none h nd, ne_of_none h nl⟩
  · exact .inr ⟨.inl (.inr ⟨o, e _ _ h⟩), ne_of_none h nd, ne_of_none h nl⟩
  · exact .inl fun _ => .inr h
/-- the deck at d: the script at s, the numbers at l -/
def Dk (K : PySem.W.Frag) (H : Hp) (d l s : Addr) (ns : List Int) (c : Nat) : Prop :=
  ∃ (xs : List Int) (i k : Nat), H d = some (.lst [.ref s, .ref l, .int (i : Int), .int (k : Int)]) ∧ H l = some (.lst (xs.map V.int)) ∧ k ≤ c ∧ Sct K H d l s (ns.map V.int)
theorem Dk.mono {K : PySem.W.Frag} {H : Hp} {d l s : Addr} {ns : List Int} {c c' : Nat} (h : Dk K H d l s ns c) (hc : c ≤ c') : Dk K H d l s ns c' := by
  obtain ⟨xs, i, k, h1, h2, h3, h4⟩ := h
  exact ⟨xs, i, k, h1, h2, Nat.le_trans h3 hc, h4⟩
theorem Dk.same {K : PySem.W.Frag} {H H' : Hp} {d l s : Addr} {ns : List Int} {c : Nat} (h : Dk K H d l s ns c) (e : Same H H') : Dk K H' d l s ns c := by
  obtain ⟨xs, i, k, h1, h2, h3, h4⟩ := h
  exact ⟨xs, i, k, e _ _ h1, e _ _ h2, h3, h4.keep (same_keep e)⟩
theorem Dk.new {K : PySem.W.Frag} {H : Hp} {d l s p : Addr} {o : HO} {ns : List Int} {c : Nat} (h : Dk K H d l s ns c) (hp : H p = none) : Dk K (upd H p o) d l s ns c := h.same (same_upd hp)
/-- what is no list is not the deck's -/
theorem Keep.at {K : PySem.W.Frag} {H H' : Hp} {d l s a : Addr} {ns : List Int} {c : Nat} {o : HO} (k : Keep d l H H') (h : Dk K H d l s ns c) (e : H a = some o) (no : ∀ xs, o ≠ .lst xs) : H' a = some o := by
  obtain ⟨xs, i, n, h1, h2, _⟩ := h
  exact k a o e (ne_of e h1 (no _)) (ne_of e h2 (no _))
theorem Keep.tup {K : PySem.W.Frag} {H H' : Hp} {d l s a : Addr} {ns : List Int} {c : Nat} {xs : List V} (k : Keep d l H H') (h : Dk K H d l s ns c) (e : H a = some (.tup xs)) : H' a = some (.tup xs) :=
  k.at h e fun _ z => by cases z
theorem Keep.fr {K : PySem.W.Frag} {H H' : Hp} {d l s : Addr} {ns : List Int} {c : Nat} {v : V} {q : Rat} (k : Keep d l H H') (h : Dk K H d l s ns c) (f : FrV H v q) : FrV H' v q := by
  obtain ⟨p, rfl, e⟩ := f
  exact ⟨p, rfl, k.tup h e⟩
theorem Dk.ne {K : PySem.W.Frag} {H : Hp} {d l s : Addr} {ns : List Int} {c : Nat} (h : Dk K H d l s ns c) : d ≠ l := by
  obtain ⟨xs, i, n, h1, h2, _⟩ := h
  refine ne_of h1 h2 fun z => ?_
  cases xs with
  | nil => cases z
  | cons x r => cases z

/-! ### rows of fractions -/
def AF (H : Hp) : List V → List Rat → Prop
  | [], [] => True
  | v :: vs, q :: qs => FrV H v q ∧ AF H vs qs
  | _, _ => False
theorem AF.imp {H H' : Hp} (k : ∀ v q, FrV H v q → FrV H' v q) : ∀ {vs : List V} {qs : List Rat}, AF H vs qs → AF H' vs qs
  | [], [], _ => trivial
  | v :: vs, q :: qs, h => ⟨k v q h.1, AF.imp k h.2⟩
  | [], _ :: _, h => h.elim
  | _ :: _, [], h => h.elim
theorem AF.len {H : Hp} : ∀ {vs : List V} {qs : List Rat}, AF H vs qs → vs.length = qs.length
  | [], [], _ => rfl
  | v :: vs, q :: qs, h => congrArg (· + 1) (AF.len h.2)
  | [], _ :: _, h => h.elim
  | _ :: _, [], h => h.elim
theorem AF.get {H : Hp} : ∀ {vs : List V} {qs : List Rat} {i : Nat} {v : V}, AF H vs qs → vs[i]? = some v → ∃ q, qs[i]? = some q ∧ FrV H v q
  | [], [], _, _, _, e => by simp at e
  | w :: vs, q :: qs, 0, v, h, e => ⟨q, rfl, by
      have e : w = v := Option.some.inj e
      exact e ▸ h.1⟩
  | w :: vs, q :: qs, i + 1, v, h, e => AF.get (i := i) h.2 e
  | [], _ :: _, _, _, h, _ => h.elim
  | _ :: _, [], _, _, h, _ => h.elim
theorem AF.snoc {H : Hp} {v : V} {q : Rat} (hv : FrV H v q) : ∀ {vs : List V} {qs : List Rat}, AF H vs qs → AF H (vs ++ [v]) (qs ++ [q])
  | [], [], _ => ⟨hv, trivial⟩
  | w :: vs, r :: qs, h => ⟨h.1, AF.snoc hv h.2⟩
  | [], _ :: _, h => h.elim
  | _ :: _, [], h => h.elim
theorem AF.same {H H' : Hp} (e : Same H H') {vs : List V} {qs : List Rat} (h : AF H vs qs) : AF H' vs qs := AF.imp (fun _ _ f => f.same e) h
theorem frv_lst {H : Hp} {D : Addr} {acc acc' : List V} {v : V} {q : Rat} (hD : H D = some (.lst acc)) (h : FrV H v q) : FrV (upd H D (.lst acc')) v q := by
  obtain ⟨p, rfl, h⟩ := h
  refine ⟨p, rfl, ?_⟩
  rw [upd_ne (ne_of h hD fun z => by cases z)]
  exact h
theorem AF.lst {H : Hp} {D : Addr} {acc acc' : List V} {vs : List V} {qs : List Rat} (hD : H D = some (.lst acc)) (h : AF H vs qs) : AF (upd H D (.lst acc')) vs qs := AF.imp (fun _ _ f => frv_lst hD f) h
/-- a tuple of fractions: a point -/
def PtV (H : Hp) (v : V) (qs : List Rat) : Prop := ∃ p xs, v = .ref p ∧ H p = some (.tup xs) ∧ AF H xs qs
theorem PtV.same {H H' : Hp} {v : V} {qs : List Rat} (e : Same H H') (h : PtV H v qs) : PtV H' v qs := by
  obtain ⟨p, xs, rfl, h, a⟩ := h
  exact ⟨p, xs, rfl, e _ _ h, a.same e⟩
theorem Keep.pt {K : PySem.W.Frag} {H H' : Hp} {d l s : Addr} {ns : List Int} {c : Nat} {v : V} {qs : List Rat} (k : Keep d l H H') (h : Dk K H d l s ns c) (f : PtV H v qs) : PtV H' v qs := by
  obtain ⟨p, xs, rfl, e, a⟩ := f
  exact ⟨p, xs, rfl, k.tup h e, AF.imp (fun _ _ f => k.fr h f) a⟩
def Rs (n : Nat) (qs : List Rat) : Prop := ∀ q ∈ qs, Rb n q
theorem rs_get {n : Nat} {qs : List Rat} {i : Nat} {q : Rat} (h : Rs n qs) (e : qs[i]? = some q) : Rb n q := h q (List.mem_of_getElem? e)
def rsum : List Rat → Rat
  | [] => 0
  | q :: r => q + rsum r
theorem rsum_snoc (q : Rat) : ∀ l : List Rat, rsum (l ++ [q]) = rsum l + q
  | [] => by
    show q + 0 = 0 + q
    grind
  | r :: l => by
    show r + rsum (l ++ [q]) = r + rsum l + q
    rw [rsum_snoc q l]
    grind
def prods (qs rs : List Rat) : List Rat := List.zipWith (fun q r => q * r) qs rs
theorem take_succ {α : Type} {l : List α} {i : Nat} {x : α} (h : l[i]? = some x) : l.take (i + 1) = l.take i ++ [x] := by
  rw [List.take_add_one, h]
  rfl
theorem prods_at {qs rs : List Rat} {i : Nat} {q r : Rat} (h1 : qs[i]? = some q) (h2 : rs[i]? = some r) : (prods qs rs)[i]? = some (q * r) := by
  unfold prods
  rw [List.getElem?_zipWith, h1, h2]
theorem dot_step {qs rs : List Rat} {i : Nat} {q r : Rat} (h1 : qs[i]? = some q) (h2 : rs[i]? = some r) : rsum ((prods qs rs).take (i + 1)) = rsum ((prods qs rs).take i) + q * r := by
  rw [take_succ (prods_at h1 h2), rsum_snoc]
/-- one turn of dot over whole numbers -/
theorem dot_turn {a b : Int} {q r S : Rat} (hb : b ≠ 0) (e : Rat.divInt a b = S) :
    Rat.divInt (a * ((q.den : Int) * (r.den : Int)) + q.num * r.num * b) (b * ((q.den : Int) * (r.den : Int))) = S + q * r := by
  rw [← e, ← rat_prod q r, Rat.divInt_add_divInt _ _ hb (Int.mul_ne_zero (den_ne q) (den_ne r))]
theorem walk_zipT {K : PySem.W.Frag} {a b : Addr} {xs ys : List V} {n : Nat} (hn : n = min xs.length ys.length) : Walk (RZ.ItzT K a b) n (fun H => SqT K H a xs ∧ SqT K H b ys) (YPair (fun i => xs[i]?) (fun i => ys[i]?)) := by
  subst hn
  refine ⟨fun i _ hi q => ?_, fun _ q => ⟨xs, ys, q.1, q.2, by omega⟩, fun i H v H' _ q y => ?_⟩
  · have h1 : i < xs.length := by omega
    have h2 : i < ys.length := by omega
    exact ⟨xs, ys, xs[i], ys[i], q.1, q.2, by simp [h1], by simp [h2]⟩
  · obtain ⟨T, x, z, h1, h2, h3, h4, h5⟩ := y
    exact ⟨T, x, z, h1, h2, h3, h4 xs q.1, h5 ys q.2⟩

section
variable {P : Program} {w : World} {K : PySem.W.Frag} {mg : Str → Option Value} {base : Heap}
def sp_frac : Sp := fun vs H Q _ => ∃ a b : Int, vs = [.int a, .int b] ∧ b ≠ 0 ∧ Bt 9000 b ∧ ∀ H' v, Same H H' → FrV H' v (Rat.divInt a b) → Q v H'
theorem b2 {m n : Nat} (hm : m ≤ 4000) (hn : n ≤ 4000) : m + n ≤ 134217728 := by omega
def sp_two (f : Rat → Rat → Rat) (ok : Rat → Prop) : Sp := fun vs H Q _ => ∃ v1 v2 q r, vs = [v1, v2] ∧ FrV H v1 q ∧ FrV H v2 r ∧ Rb 4000 q ∧ Rb 4000 r ∧ ok r ∧ ∀ H' v, Same H H' → FrV H' v (f q r) → Q v H'
/-- the same, of fractions of any sizes that a division bears -/
def sp_twoG (f : Rat → Rat → Rat) (ok : Rat → Prop) : Sp := fun vs H Q _ => ∃ v1 v2 q r m n, vs = [v1, v2] ∧ FrV H v1 q ∧ FrV H v2 r ∧ Rb m q ∧ Rb n r ∧ m + n ≤ 9000 ∧ ok r ∧ ∀ H' v, Same H H' → FrV H' v (f q r) → Q v H'
theorem two_lenG {f : Rat → Rat → Rat} {ok : Rat → Prop} {vs : List V} {H : Hp} {Q : VK} {E : XK} (h : sp_twoG f ok vs H Q E) : vs.length = 2 := by
  obtain ⟨_, _, _, _, _, _, rfl, _⟩ := h
  rfl
theorem two_G {f : Rat → Rat → Rat} {ok : Rat → Prop} (vs : List V) (H : Hp) (Q : VK) (E : XK) (h : sp_two f ok vs H Q E) : sp_twoG f ok vs H Q E := by
  obtain ⟨v1, v2, q, r, e, f1, f2, b1, b2, k⟩ := h
  exact ⟨v1, v2, q, r, 4000, 4000, e, f1, f2, b1, b2, by decide, k⟩
theorem two_len {f : Rat → Rat → Rat} {ok : Rat → Prop} {vs : List V} {H : Hp} {Q : VK} {E : XK} (h : sp_two f ok vs H Q E) : vs.length = 2 := by
  obtain ⟨_, _, _, _, rfl, _⟩ := h
  rfl
end

section
variable {P : Program} {w : World} {K : PySem.W.Frag} {mg : Str → Option Value} {base : Heap}
def sp_sign : Sp := fun vs H Q _ => ∃ v q, vs = [v] ∧ FrV H v q ∧ Q (.int q.num.sign) H
end

section
variable {P : Program} {w : World} {K : PySem.W.Frag} {mg : Str → Option Value} {base : Heap}
/-! ### gcd, share -/
def sp_gcd : Sp := fun vs H Q _ => ∃ a b : Int, vs = [.int a, .int b] ∧ Q (.int (Int.gcd a b : Int)) H
theorem ok__law_gcd (T : Tx K mg) : FnOk P w K mg base CX0 1 T.f__law_gcd T.d__law_gcd ["_law_one", "_law_other"] sp_gcd := by
  refine T.F__law_gcd.ok sc__law_gcd (fun vs H Q E h => ?_) (fun cdv A outer s H vs Q E hr h => ?_)
  · obtain ⟨a, b, rfl, _⟩ := h
    rfl
  · obtain ⟨a, b, rfl, q⟩ := h
    refine ⟨_, (pss_cons (ps_set (i := 0) sc__law_gcd.nd rfl (Or.inl rfl) (pe_callB call_abs (by rfl) T.m_abs (by decide +kernel) (pa_cons (pv 0) pa_nil)))
      (pss_cons (ps_set (i := 1) sc__law_gcd.nd rfl (Or.inl rfl) (pe_callB call_abs (by rfl) T.m_abs (by decide +kernel) (pa_cons (pv 1) pa_nil)))
      (pss_cons (ps_while PassesOwn.never (pt_cmpR op_gt (pv 1) pe_int (nomark _)) (pss_one (ps_par (i := 0) (j := 1) (by rfl) sc__law_gcd.nd rfl rfl (by decide) rfl rfl (pa_cons (pv 1) (pa_cons (pe_op op_modN (pv 0) (pv 1)) pa_nil)) (by rfl))))
      (pss_one (ps_ret (pv 0)))))), ?_⟩
    refine ⟨.int a, rfl, a, rfl, .int b, rfl, b, rfl, ?_⟩
    refine ⟨fun m σ H' => H' = H ∧ ∃ x y : Int, σ = [some (.int x), some (.int y)] ∧ m = y.natAbs ∧ HInv a b x y, ⟨_, rfl, _, _, rfl, rfl, gcd_abs a b, by split <;> omega, by split <;> omega⟩, fun m σ H2 hW => ?_⟩
    obtain ⟨rfl, x, y, rfl, rfl, inv⟩ := hW
    refine ⟨.int y, rfl, y, 0, rfl, rfl, _, rfl, ite2 (fun e => ?_) (fun e => ?_)⟩
    · have hy := of_decide_eq_true e
      have nx := inv.next hy
      refine ⟨fun σ' H' => ∃ m', m' < y.natAbs ∧ H' = H2 ∧ ∃ x y : Int, σ' = [some (.int x), some (.int y)] ∧ m' = y.natAbs ∧ HInv a b x y, fun _ _ h => h, ?_⟩
      exact ⟨.int y, rfl, .int x, rfl, .int y, rfl, x, y, rfl, rfl, by omega, _, _, rfl, _, nx.2, rfl, y, x.fmod y, rfl, rfl, nx.1⟩
    · have hy : ¬ 0 < y := fun z => e (decide_eq_true z)
      have ex := inv.fin hy
      subst ex
      exact ⟨_, rfl, q⟩
theorem ok__law_share (T : Tx K mg) : FnOk P w K mg base CX0 2 T.f__law_share T.d__law_share ["_law_top", "_law_bottom"] sp_frac := by
  have G__law_gcd := ok__law_gcd (P := P) (w := w) (base := base) T
  refine T.F__law_share.ok sc__law_share (fun vs H Q E h => ?_) (fun cdv A outer s H vs Q E hr h => ?_)
  · obtain ⟨a, b, rfl, _⟩ := h
    rfl
  · obtain ⟨a, b, rfl, hb, hB, q⟩ := h
    refine ⟨_, (pss_cons (ps_set (i := 2) sc__law_share.nd rfl (Or.inl rfl) (pe_call G__law_gcd (hr.mono (by first | decide | omega)) (by rfl) T.g__law_gcd T.F__law_gcd.kp T.b__law_gcd .nil pass0 (pa_cons (pv 0) (pa_cons (pv 1) pa_nil))))
      (pss_cons (ps_if (pt_cmpR op_lt (pv 1) pe_int (nomark _)) (pss_one (ps_set (i := 2) sc__law_share.nd rfl (Or.inl rfl) (pe_un un_neg (pv 2)))) pss_nil)
      (pss_one (ps_ret (pe_tup (pa_cons (pe_op op_fdX (pv 0) (pv 2)) (pa_cons (pe_op op_fdX (pv 1) (pv 2)) pa_nil))))))), ?_⟩
    have sn := sg_ne (a := a) hb
    have bx : Bt 9000 (sg a b) := hB.le sn.2
    have fin : ∀ x : Int, x = sg a b → tRet (tTup (tCons (tOp (rI (fun _ j => j ≠ 0 ∧ Bt 9000 j) fun i j => V.int (i.fdiv j)) (tVar 0) (tVar 2)) (tCons (tOp (rI (fun _ j => j ≠ 0 ∧ Bt 9000 j) fun i j => V.int (i.fdiv j)) (tVar 1) (tVar 2)) tNil))) { nx := fun _ H' => Q .non H', rt := Q } [some (.int a), some (.int b), some (.int x)] H := fun x ex => by
      subst ex
      exact ⟨.int a, rfl, .int (sg a b), rfl, a, sg a b, rfl, rfl, ⟨sn.1, bx⟩, .int b, rfl, .int (sg a b), rfl, b, sg a b, rfl, rfl, ⟨sn.1, bx⟩, sz_n (by decide : 2 ≤ 1000), fun p hp => q _ _ (same_upd hp) (frv_new (sg_num hb) (sg_den hb))⟩
    refine ⟨.int a, rfl, .int b, rfl, a, b, rfl, ?_⟩
    refine ⟨.int b, rfl, b, 0, rfl, rfl, _, rfl, ite2 (fun e => ?_) (fun e => ?_)⟩
    · have e := of_decide_eq_true e
      refine ⟨_, rfl, _, rfl, fin _ ?_⟩
      unfold sg
      rw [if_pos e]
    · have e : ¬ b < 0 := fun z => e (decide_eq_true z)
      refine fin _ ?_
      unfold sg
      rw [if_neg e]
theorem bt_small {x : Int} (h : x.natAbs < 2 ^ 100) : Bt 9000 x := Nat.lt_of_lt_of_le h (Nat.pow_le_pow_right (by decide) (by decide))
theorem bt13 : Bt 9000 13 := bt_small (by decide)
/-! ### draws -/
def sp_cell (K : PySem.W.Frag) : Sp := fun vs H Q _ => ∃ (s : Addr) (ns : List Int) (k : Nat), vs = [.ref s, .int (k : Int)] ∧ SqL K H s (ns.map V.int) ∧ k < 2 ^ 41 ∧ ∀ v, 0 ≤ v → Q (.int v) H
theorem ok__law_cell (T : Tx K mg) : FnOk P w K mg base CX0 1 T.f__law_cell T.d__law_cell ["_law_script", "_law_k"] (sp_cell K) := by
  refine T.F__law_cell.ok sc__law_cell (fun vs H Q E h => ?_) (fun cdv A outer s H vs Q E hr h => ?_)
  · obtain ⟨a, b, c, rfl, _⟩ := h
    rfl
  · obtain ⟨s, ns, k, rfl, hs, hk, q⟩ := h
    refine ⟨_, (pss_cons (ps_if (pt_cmpR op_eq (pe_callB call_len_seq (by rfl) T.m_len (by decide +kernel) (pa_cons (pv 0) pa_nil)) pe_int (nomark _)) (pss_one (ps_ret (pe_op op_add (pe_op op_mulX pe_int (pv 1)) pe_int))) pss_nil)
      (pss_one (ps_ret (pe_callB call_abs (by rfl) T.m_abs (by decide +kernel) (pa_cons (pe_ix ix_list (pv 0) (pe_op op_modN (pv 1) (pe_callB call_len_seq (by rfl) T.m_len (by decide +kernel) (pa_cons (pv 0) pa_nil))) (fun _ _ => rfl)) pa_nil))))), ?_⟩
    refine ⟨.ref s, rfl, s, _, rfl, .inl hs, rd_c (rd_eqi ⟨_, rfl, ite2 (fun e => ?_) (fun e => ?_)⟩)⟩
    · exact ⟨.int (k : Int), rfl, 7, (k : Int), rfl, rfl, mulx_ok (a := 3) (b := 41) (by decide) (by omega) (by decide), _, 3, rfl, rfl, q _ (by omega)⟩
    · have e : ¬ (((ns.map V.int).length : Int) = 0) := fun z => e (decide_eq_true z)
      rw [List.length_map] at e
      have f := @fmod_pos (k : Int) (ns.length : Int) (by omega)
      have hj : ((k : Int).fmod (ns.length : Int)).toNat < ns.length := by omega
      refine ⟨.ref s, rfl, .int (k : Int), rfl, .ref s, rfl, s, _, rfl, .inl hs, (k : Int), ((ns.map V.int).length : Int), rfl, rfl, (by rw [List.length_map]; exact e), s, _, _, .int ns[((k : Int).fmod (ns.length : Int)).toNat], rfl, rfl, hs, ?_, _, rfl, q _ (by split <;> omega)⟩
      refine at_of (j := ((k : Int).fmod (ns.length : Int)).toNat) ?_ ?_
      · show (k : Int).fmod ((ns.map V.int).length : Int) = _
        rw [List.length_map]
        omega
      · rw [List.getElem?_map, List.getElem?_eq_getElem hj]
        rfl
def sp_mixed (K : PySem.W.Frag) : Sp := fun vs H Q _ => ∃ (s : Addr) (ns : List Int) (k : Nat) (m : Int), vs = [.ref s, .int (k : Int), .int m] ∧ SqL K H s (ns.map V.int) ∧ k < 2 ^ 41 ∧ 0 < m ∧ ∀ v, 0 ≤ v → v < m → Q (.int v) H
theorem ok__law_mixed (T : Tx K mg) : FnOk P w K mg base CX0 2 T.f__law_mixed T.d__law_mixed ["_law_script", "_law_k", "_law_many"] (sp_mixed K) := by
  have G__law_cell := ok__law_cell (P := P) (w := w) (base := base) T
  refine T.F__law_mixed.ok sc__law_mixed (fun vs H Q E h => ?_) (fun cdv A outer s H vs Q E hr h => ?_)
  · obtain ⟨a, b, c, d, rfl, _⟩ := h
    rfl
  · obtain ⟨s, ns, k, m, rfl, hs, hk, hm, q⟩ := h
    refine ⟨_, (pss_cons (ps_set (i := 3) sc__law_mixed.nd rfl (Or.inl rfl) (pe_op op_modN (pe_op op_pow (pe_op op_add (pe_op op_mulX (pe_op op_add (pe_op op_modN (pe_call G__law_cell (hr.mono (by first | decide | omega)) (by rfl) T.g__law_cell T.F__law_cell.kp T.b__law_cell .nil pass0 (pa_cons (pv 0) (pa_cons (pv 1) pa_nil))) pe_int) pe_int) (pe_op op_add (pv 1) pe_int)) (pe_op op_mulX pe_int (pv 1))) pe_int) pe_int))
      (pss_one (ps_ret (pe_op op_modN (pe_op op_fdX (pv 3) pe_int) (pv 2))))), ?_⟩
    refine ⟨.ref s, rfl, .int (k : Int), rfl, s, ns, k, rfl, hs, hk, fun v hv => ?_⟩
    have f := @fmod_pos v 1000003 (by decide)
    refine ⟨v, 1000003, rfl, rfl, (show (1000003 : Int) ≠ 0 by decide), _, 5, rfl, rfl, .int (k : Int), rfl, (k : Int), 2, rfl, rfl, _, _, rfl, rfl, mulx_ok (a := 20) (b := 42) (by omega) (by omega) (by decide), .int (k : Int), rfl, 7919, (k : Int), rfl, rfl, mulx_ok (a := 13) (b := 41) (by decide) (by omega) (by decide), _, _, rfl, rfl, ?_⟩
    have hu : ((v.fmod 1000003 + 5) * ((k : Int) + 2) + 7919 * (k : Int)).natAbs < 2 ^ 64 := by
      have h1 : (v.fmod 1000003 + 5) * ((k : Int) + 2) ≤ 1000008 * ((k : Int) + 2) := Int.mul_le_mul_of_nonneg_right (by omega) (by omega)
      have h0 : 0 ≤ (v.fmod 1000003 + 5) * ((k : Int) + 2) := Int.mul_nonneg (by omega) (by omega)
      omega
    refine ⟨_, 5, rfl, rfl, ⟨by decide, by decide, hu⟩, _, 2147483647, rfl, rfl, (show (2147483647 : Int) ≠ 0 by decide), ?_⟩
    refine ⟨_, rfl, _, 13, rfl, rfl, ⟨by decide, bt13⟩, .int m, rfl, _, m, rfl, rfl, (show m ≠ 0 by omega), ?_⟩
    have g := @fmod_pos (((((v.fmod 1000003 + 5) * ((k : Int) + 2) + 7919 * (k : Int)) ^ (5 : Int).toNat).fmod 2147483647).fdiv 13) m hm
    exact q _ g.1 g.2
end

section
variable {P : Program} {w : World} {K : PySem.W.Frag} {mg : Str → Option Value} {base : Heap}
def sp_take (K : PySem.W.Frag) : Sp := fun vs H Q _ => ∃ (d l s : Addr) (ns : List Int) (c : Nat) (m : Int), vs = [.ref d, .int m] ∧ Dk K H d l s ns c ∧ c < 2 ^ 40 ∧ 0 < m ∧ m < 2 ^ 60 ∧
  ∀ H' v, Keep d l H H' → Dk K H' d l s ns (c + 1) → 0 ≤ v → v < m → Q (.int v) H'
theorem ok__law_take (T : Tx K mg) : FnOk P w K mg base CX0 3 T.f__law_take T.d__law_take ["_law_deck_here", "_law_many"] (sp_take K) := by
  have G__law_mixed := ok__law_mixed (P := P) (w := w) (base := base) T
  refine T.F__law_take.ok sc__law_take (fun vs H Q E h => ?_) (fun cdv A outer s H vs Q E hr h => ?_)
  · obtain ⟨_, _, _, _, _, _, rfl, _⟩ := h
    rfl
  · obtain ⟨d, l, s, ns, c, m, rfl, hD, hc, hm, hm2, q⟩ := h
    refine ⟨_, (pss_cons (ps_while PassesOwn.never (pt_cmpR op_lt (pe_ix ix_list (pv 0) pe_int (fun _ _ => rfl)) (pe_callB call_len_seq (by rfl) T.m_len (by decide +kernel) (pa_cons (pe_ix ix_list (pv 0) pe_int (fun _ _ => rfl)) pa_nil)) (nomark _)) (pss_cons (ps_set (i := 2) sc__law_take.nd rfl (Or.inl rfl) (pe_ix ix_list (pe_ix ix_list (pv 0) pe_int (fun _ _ => rfl)) (pe_ix ix_list (pv 0) pe_int (fun _ _ => rfl)) (fun _ _ => rfl)))
      (pss_cons (ps_if (pt_cmpR op_gt (pv 2) pe_int (nomark _)) (pss_cons (ps_asg (pe_op op_fdX (pv 2) (pv 1)) (pg_sub (pe_ix ix_list (pv 0) pe_int (fun _ _ => rfl)) (pe_ix ix_list (pv 0) pe_int (fun _ _ => rfl)) set_list))
      (pss_one (ps_ret (pe_op op_modN (pv 2) (pv 1))))) pss_nil)
      (pss_one (ps_asg (pe_op op_add (pe_ix ix_list (pv 0) pe_int (fun _ _ => rfl)) pe_int) (pg_sub (pv 0) pe_int set_list))))))
      (pss_cons (ps_asg (pe_op op_add (pe_ix ix_list (pv 0) pe_int (fun _ _ => rfl)) pe_int) (pg_sub (pv 0) pe_int set_list))
      (pss_one (ps_ret (pe_call G__law_mixed (hr.mono (by first | decide | omega)) (by rfl) T.g__law_mixed T.F__law_mixed.kp T.b__law_mixed .nil pass0 (pa_cons (pe_ix ix_list (pv 0) pe_int (fun _ _ => rfl)) (pa_cons (pe_ix ix_list (pv 0) pe_int (fun _ _ => rfl)) (pa_cons (pv 1) pa_nil)))))))), ?_⟩
    have hdl := hD.ne
    obtain ⟨xs, i, k, hd, hl, hk, hs⟩ := hD
    refine ⟨fun n σ H1 => ∃ (xs : List Int) (i k : Nat) (y : Option V), σ = [some (.ref d), some (.int m), y] ∧ Keep d l H H1 ∧ H1 d = some (.lst [.ref s, .ref l, .int (i : Int), .int (k : Int)]) ∧ H1 l = some (.lst (xs.map V.int)) ∧ k ≤ c ∧ Sct K H1 d l s (ns.map V.int) ∧ n = xs.length - i,
      ⟨_, xs, i, k, none, rfl, Keep.refl, hd, hl, hk, hs, rfl⟩, fun n σ H1 hW => ?_⟩
    obtain ⟨xs, i, k, y, rfl, kp, hd, hl, hk, hs, rfl⟩ := hW
    refine ⟨.ref d, rfl, d, _, 2, .int (i : Int), rfl, rfl, SqL.of hd, rfl, .ref d, rfl, d, _, 1, .ref l, rfl, rfl, SqL.of hd, rfl, l, _, rfl, .inl (SqL.of hl), (i : Int), ((xs.map V.int).length : Int), rfl, rfl, _, rfl, ite2 (fun e => ?_) (fun e => ?_)⟩
    · have hi := of_decide_eq_true e
      rw [List.length_map] at hi
      have hi : i < xs.length := by omega
      refine ⟨fun σ' H' => ∃ m', m' < xs.length - i ∧ ∃ (xs : List Int) (i k : Nat) (y : Option V), σ' = [some (.ref d), some (.int m), y] ∧ Keep d l H H' ∧ H' d = some (.lst [.ref s, .ref l, .int (i : Int), .int (k : Int)]) ∧ H' l = some (.lst (xs.map V.int)) ∧ k ≤ c ∧ Sct K H' d l s (ns.map V.int) ∧ m' = xs.length - i,
        fun _ _ h => h, ?_⟩
      have ga : (xs.map V.int)[i]? = some (.int xs[i]) := by
        rw [List.getElem?_map, List.getElem?_eq_getElem hi]
        rfl
      refine ⟨.ref d, rfl, d, _, 1, .ref l, rfl, rfl, SqL.of hd, rfl, .ref d, rfl, d, _, 2, .int (i : Int), rfl, rfl, SqL.of hd, rfl, l, _, (i : Int), .int xs[i], rfl, rfl, SqL.of hl, atI_nat ga, ?_⟩
      refine ⟨.int xs[i], rfl, xs[i], 0, rfl, rfl, _, rfl, ite2 (fun e => ?_) (fun e => ?_)⟩
      · have f := @fmod_pos xs[i] m hm
        have ix : ixN (xs.map V.int).length (i : Int) = some i := by
          unfold ixN
          rw [List.length_map, if_pos (by omega), if_pos (by omega)]
          rfl
        refine ⟨.int xs[i], rfl, .int m, rfl, xs[i], m, rfl, rfl, ⟨(show m ≠ 0 by omega), bt_small (by omega)⟩, .ref d, rfl, d, _, 1, .ref l, rfl, rfl, SqL.of hd, rfl, .ref d, rfl, d, _, 2, .int (i : Int), rfl, rfl, SqL.of hd, rfl, l, _, (i : Int), i, rfl, rfl, hl, ix, ?_⟩
        refine ⟨.int xs[i], rfl, .int m, rfl, xs[i], m, rfl, rfl, (show m ≠ 0 by omega), q _ _ (kp.trans keep_l) ?_ f.1 f.2⟩
        refine ⟨xs.set i (xs[i].fdiv m), i, k, ?_, ?_, by omega, hs.keep keep_l⟩
        · rw [upd_ne hdl]
          exact hd
        · rw [upd_same, List.map_set]
      · refine ⟨.ref d, rfl, d, _, 2, .int (i : Int), rfl, rfl, SqL.of hd, rfl, (i : Int), 1, rfl, rfl, .ref d, rfl, d, _, 2, 2, rfl, rfl, hd, rfl, ?_⟩
        refine ⟨_, ?_, xs, i + 1, k, some (.int xs[i]), rfl, kp.trans keep_d, upd_same, ?_, hk, hs.keep keep_d, rfl⟩
        · omega
        · rw [upd_ne hdl.symm]
          exact hl
    · refine ⟨.ref d, rfl, d, _, 3, .int (k : Int), rfl, rfl, SqL.of hd, rfl, (k : Int), 1, rfl, rfl, .ref d, rfl, d, _, 3, 3, rfl, rfl, hd, rfl, ?_⟩
      have hd' : upd H1 d (.lst [.ref s, .ref l, .int (i : Int), .int ((k + 1 : Nat) : Int)]) d = some (.lst [.ref s, .ref l, .int (i : Int), .int ((k + 1 : Nat) : Int)]) := upd_same
      have hs' : Sct K (upd H1 d (.lst [.ref s, .ref l, .int (i : Int), .int ((k + 1 : Nat) : Int)])) d l s (ns.map V.int) := hs.keep keep_d
      refine ⟨.ref d, rfl, d, _, 0, .ref s, rfl, rfl, SqL.of hd', rfl, .ref d, rfl, d, _, 3, .int ((k + 1 : Nat) : Int), rfl, rfl, SqL.of hd', rfl, .int m, rfl, s, ns, k + 1, m, rfl, hs'.sq, by omega, hm, fun v v0 v1 => ?_⟩
      refine q _ v (kp.trans keep_d) ⟨xs, i, k + 1, hd', ?_, by omega, hs'⟩ v0 v1
      rw [upd_ne hdl.symm]
      exact hl
def sp_deck (K : PySem.W.Frag) : Sp := fun vs H Q _ => ∃ (s : Addr) (ns : List Int), vs = [.ref s] ∧ SqL K H s (ns.map V.int) ∧ ns.length ≤ 63 ∧
  ∀ H' d l, Same H H' → Dk K H' d l s ns 0 → H d = none → H l = none → Q (.ref d) H'
theorem ok__law_deck (T : Tx K mg) : FnOk P w K mg base CX0 1 T.f__law_deck T.d__law_deck ["_law_script"] (sp_deck K) := by
  refine T.F__law_deck.ok sc__law_deck (fun vs H Q E h => ?_) (fun cdv A outer s H vs Q E hr h => ?_)
  · obtain ⟨_, _, rfl, _⟩ := h
    rfl
  · obtain ⟨s, ns, rfl, hs, hn, q⟩ := h
    refine ⟨_, (pss_one (ps_ret (pe_lst (pa_cons (pv 0) (pa_cons (pe_lc (own := [("_law_part", 1)]) (g := gName 1) (by rfl) sc__law_deck.nd (pi_list (pv 0)) (blkOk_by (own := [("_law_part", 1)]) (N := nm__law_deck) (sc := defScope s__law_deck) (by decide +kernel)) (fun _ _ _ _ _ => (pg_name (i := 1) sc__law_deck.nd rfl (Or.inl rfl))) (fun _ _ _ _ _ => (pts_one (pt_cmpR op_ge (pe_callB call_abs (by rfl) T.m_abs (by decide +kernel) (pa_cons (pv 1) pa_nil)) (pe_op op_pow pe_int pe_int) (nomark _)))) (fun _ _ _ _ _ => (pe_callB call_abs (by rfl) T.m_abs (by decide +kernel) (pa_cons (pv 1) pa_nil)))) (pa_cons pe_int (pa_cons pe_int pa_nil))))))), ?_⟩
    refine ⟨.ref s, rfl, .ref s, rfl, s, rfl, ⟨_, hs⟩, fun D nD => ?_⟩
    refine lc_list (K := K) (a := s) (xs := ns.map V.int) (fun i H' => Same H H' ∧ ∃ xs : List Int, H' D = some (.lst (xs.map V.int)) ∧ xs.length ≤ i) ⟨same_upd nD, [], upd_same, Nat.le_refl _⟩ (fun i H' _ h => h.1.seq hs) (fun i x H' hx h => ?_) (fun H' h => ?_)
    · obtain ⟨hS, xs, hx', hxl⟩ := h
      have hil : i < (ns.map V.int).length := (List.getElem?_eq_some_iff.mp hx).1
      rw [List.length_map] at hil
      obtain ⟨z, rfl⟩ : ∃ z, x = .int z := by
        rw [List.getElem?_map, List.getElem?_eq_getElem hil] at hx
        exact ⟨_, (Option.some.inj hx).symm⟩
      refine ⟨rfl, .int z, rfl, z, rfl, 10, 18, rfl, rfl, ⟨by decide, by decide, by decide⟩, _, _, rfl, rfl, _, rfl, ite2 (fun e => ?_) (fun e => ?_)⟩
      · refine ⟨.int z, rfl, z, rfl, _, hx', small1000 (by rw [List.length_map]; omega), fun a o e => ?_, xs ++ [if z < 0 then -z else z], ?_, ?_⟩
        · rw [upd_ne (ne_of_none e nD)]
          exact hS a o e
        · rw [upd_same, List.map_append]
          rfl
        · rw [List.length_append]
          exact Nat.add_le_add_right hxl 1
      · exact ⟨hS, xs, hx', by omega⟩
    · obtain ⟨hS, xs, hx', hxl⟩ := h
      refine ⟨sz_n (by decide : 4 ≤ 1000), fun d nd => ?_⟩
      have nd0 : H d = none := hS.free nd
      refine q _ d D (hS.trans (same_upd nd)) ⟨xs, 0, 0, upd_same, ?_, Nat.le_refl _, sct_of hs (hS.trans (same_upd nd)) nd0 nD⟩ nd0 nD
      rw [upd_ne (ne_of_none hx' nd)]
      exact hx'
def sp_figures (K : PySem.W.Frag) : Sp := fun vs H Q _ => ∃ (d l s : Addr) (ns : List Int) (c : Nat), vs = [.ref d] ∧ Dk K H d l s ns c ∧ c + 4 < 2 ^ 40 ∧
  ∀ H' v, Keep d l H H' → Dk K H' d l s ns (c + 3) → 0 ≤ v → v ≤ 999999 → Q (.int v) H'
theorem ok__law_figures (T : Tx K mg) : FnOk P w K mg base CX0 4 T.f__law_figures T.d__law_figures ["_law_deck_here"] (sp_figures K) := by
  have G__law_take := ok__law_take (P := P) (w := w) (base := base) T
  refine T.F__law_figures.ok sc__law_figures (fun vs H Q E h => ?_) (fun cdv A outer s H vs Q E hr h => ?_)
  · obtain ⟨_, _, _, _, _, rfl, _⟩ := h
    rfl
  · obtain ⟨d, l, s, ns, c, rfl, hD, hc, q⟩ := h
    refine ⟨_, (pss_cons (ps_set (i := 1) sc__law_figures.nd rfl (Or.inl rfl) (pe_call G__law_take (hr.mono (by first | decide | omega)) (by rfl) T.g__law_take T.F__law_take.kp T.b__law_take .nil pass0 (pa_cons (pv 0) (pa_cons pe_int pa_nil))))
      (pss_cons (ps_if (pt_cmpR op_lt (pv 1) pe_int (nomark _)) (pss_one (ps_ret (pe_call G__law_take (hr.mono (by first | decide | omega)) (by rfl) T.g__law_take T.F__law_take.kp T.b__law_take .nil pass0 (pa_cons (pv 0) (pa_cons pe_int pa_nil))))) pss_nil)
      (pss_cons (ps_if (pt_cmpR op_eq (pv 1) pe_int (nomark _)) (pss_one (ps_ret (pe_op op_add (pe_op op_mulX (pe_call G__law_take (hr.mono (by first | decide | omega)) (by rfl) T.g__law_take T.F__law_take.kp T.b__law_take .nil pass0 (pa_cons (pv 0) (pa_cons pe_int pa_nil))) pe_int) (pe_call G__law_take (hr.mono (by first | decide | omega)) (by rfl) T.g__law_take T.F__law_take.kp T.b__law_take .nil pass0 (pa_cons (pv 0) (pa_cons pe_int pa_nil)))))) pss_nil)
      (pss_one (ps_ret (pe_op op_sub pe_int (pe_call G__law_take (hr.mono (by first | decide | omega)) (by rfl) T.g__law_take T.F__law_take.kp T.b__law_take .nil pass0 (pa_cons (pv 0) (pa_cons pe_int pa_nil))))))))), ?_⟩
    refine ⟨.ref d, rfl, d, l, s, ns, c, 4, rfl, hD, by omega, by decide, by decide, fun H1 k k1 D1 _ _ => ?_⟩
    refine ⟨.int k, rfl, k, 2, rfl, rfl, _, rfl, ite2 (fun _ => ?_) (fun _ => ?_)⟩
    · exact ⟨.ref d, rfl, d, l, s, ns, c + 1, 12, rfl, D1, by omega, by decide, by decide, fun H2 v k2 D2 v0 v1 => q H2 v (k1.trans k2) (D2.mono (by omega)) v0 (by omega)⟩
    · refine ⟨.int k, rfl, rfl, _, rfl, ite2 (fun _ => ?_) (fun _ => ?_)⟩
      · refine ⟨.ref d, rfl, d, l, s, ns, c + 1, 1000, rfl, D1, by omega, by decide, by decide, fun H2 v k2 D2 v0 v1 => ?_⟩
        refine ⟨v, 1000, rfl, rfl, mulx_ok (a := 10) (b := 10) (by omega) (by decide) (by decide), ?_⟩
        exact ⟨.ref d, rfl, d, l, s, ns, c + 2, 1000, rfl, D2, by omega, by decide, by decide, fun H3 u k3 D3 u0 u1 => ⟨_, _, rfl, rfl, q H3 _ (k1.trans (k2.trans k3)) (D3.mono (by omega)) (by omega) (by omega)⟩⟩
      · exact ⟨.ref d, rfl, d, l, s, ns, c + 1, 3, rfl, D1, by omega, by decide, by decide, fun H2 v k2 D2 v0 v1 => ⟨_, _, rfl, rfl, q H2 _ (k1.trans k2) (D2.mono (by omega)) (by omega) (by omega)⟩⟩
end

section
variable {P : Program} {w : World} {K : PySem.W.Frag} {mg : Str → Option Value} {base : Heap}
def sp_fraction (K : PySem.W.Frag) : Sp := fun vs H Q _ => ∃ (d l s : Addr) (ns : List Int) (c : Nat), vs = [.ref d] ∧ Dk K H d l s ns c ∧ c + 10 < 2 ^ 40 ∧
  ∀ H' v f, Keep d l H H' → Dk K H' d l s ns (c + 8) → FrV H' v f → Rb 20 f → Q v H'
theorem ok__law_fraction (T : Tx K mg) : FnOk P w K mg base CX0 5 T.f__law_fraction T.d__law_fraction ["_law_deck_here"] (sp_fraction K) := by
  have G__law_figures := ok__law_figures (P := P) (w := w) (base := base) T
  have G__law_share := ok__law_share (P := P) (w := w) (base := base) T
  have G__law_take := ok__law_take (P := P) (w := w) (base := base) T
  refine T.F__law_fraction.ok sc__law_fraction (fun vs H Q E h => ?_) (fun cdv A outer s H vs Q E hr h => ?_)
  · obtain ⟨_, _, _, _, _, rfl, _⟩ := h
    rfl
  · obtain ⟨d, l, s, ns, c, rfl, hD, hc, q⟩ := h
    refine ⟨_, (pss_cons (ps_set (i := 1) sc__law_fraction.nd rfl (Or.inl rfl) (pe_op op_mulX (pe_call G__law_figures (hr.mono (by first | decide | omega)) (by rfl) T.g__law_figures T.F__law_figures.kp T.b__law_figures .nil pass0 (pa_cons (pv 0) pa_nil)) (pe_op op_sub pe_int (pe_op op_mulX pe_int (pe_call G__law_take (hr.mono (by first | decide | omega)) (by rfl) T.g__law_take T.F__law_take.kp T.b__law_take .nil pass0 (pa_cons (pv 0) (pa_cons pe_int pa_nil)))))))
      (pss_one (ps_ret (pe_call G__law_share (hr.mono (by first | decide | omega)) (by rfl) T.g__law_share T.F__law_share.kp T.b__law_share .nil pass0 (pa_cons (pv 1) (pa_cons (pe_callB (call_max2 rfl) (by rfl) T.m_max (by decide +kernel) (pa_cons pe_int (pa_cons (pe_ix ix_list (pe_lst (pa_cons pe_int (pa_cons (pe_call G__law_figures (hr.mono (by first | decide | omega)) (by rfl) T.g__law_figures T.F__law_figures.kp T.b__law_figures .nil pass0 (pa_cons (pv 0) pa_nil)) pa_nil))) (pe_call G__law_take (hr.mono (by first | decide | omega)) (by rfl) T.g__law_take T.F__law_take.kp T.b__law_take .nil pass0 (pa_cons (pv 0) (pa_cons pe_int pa_nil))) (fun _ _ => rfl)) pa_nil))) pa_nil)))))), ?_⟩
    refine ⟨.ref d, rfl, d, l, s, ns, c, rfl, hD, by omega, fun H1 v k1 D1 v0 v1 => ?_⟩
    refine ⟨.ref d, rfl, d, l, s, ns, c + 3, 2, rfl, D1, by omega, by decide, by decide, fun H2 b k2 D2 b0 b1 => ?_⟩
    refine ⟨2, b, rfl, rfl, mulx_ok (a := 2) (b := 2) (by decide) (by omega) (by decide), 1, _, rfl, rfl, v, _, rfl, rfl, mulx_ok (a := 20) (b := 3) (by omega) (by omega) (by decide), ?_⟩
    have bt : Bt 20 (v * (1 - 2 * b)) := by
      have hb : b = 0 ∨ b = 1 := by omega
      unfold Bt
      rcases hb with rfl | rfl <;> omega
    refine ⟨_, rfl, .ref d, rfl, d, l, s, ns, c + 4, rfl, D2, by omega, fun H3 u k3 D3 u0 u1 => ?_⟩
    refine ⟨sz_n (by decide : 2 ≤ 1000), fun p hp => ?_⟩
    have pd : p ≠ d := fun z => by
      obtain ⟨_, _, _, h, _⟩ := D3
      rw [z, h] at hp
      cases hp
    have pl : p ≠ l := fun z => by
      obtain ⟨_, _, _, _, h, _⟩ := D3
      rw [z, h] at hp
      cases hp
    refine ⟨.ref d, rfl, d, l, s, ns, c + 7, 2, rfl, D3.new hp, by omega, by decide, by decide, fun H4 e k4 D4 e0 e1 => ?_⟩
    have hp4 := k4 p _ upd_same pd pl
    have he : e = 0 ∨ e = 1 := by omega
    obtain ⟨x, hx, x0, x1⟩ : ∃ x : Int, atI [V.int 1, V.int u] e = some (.int x) ∧ 0 ≤ x ∧ x ≤ 999999 := by
      rcases he with rfl | rfl
      · exact ⟨1, rfl, by decide, by decide⟩
      · exact ⟨u, rfl, u0, u1⟩
    refine ⟨p, _, e, .int x, rfl, rfl, SqL.of hp4, hx, 1, x, rfl, ?_⟩
    have hm : 1 ≤ (if x > 1 then x else 1) ∧ (if x > 1 then x else 1) ≤ 999999 := by split <;> omega
    generalize (if x > 1 then x else 1) = bot at hm
    refine ⟨v * (1 - 2 * b), bot, rfl, (show bot ≠ 0 by omega), bt_small (by omega), fun H5 v5 s5 f5 => ?_⟩
    exact q H5 v5 _ (k1.trans (k2.trans (k3.trans ((keep_new hp).trans (k4.trans (same_keep s5)))))) ((D4.same s5).mono (by omega)) f5 (rb_div (by omega) bt (by show bot.natAbs < 2 ^ 20; omega))
end

section
variable {P : Program} {w : World} {K : PySem.W.Frag} {mg : Str → Option Value} {base : Heap}
theorem ok__law_plus (T : Tx K mg) : FnOk P w K mg base CX0 3 T.f__law_plus T.d__law_plus ["_law_one", "_law_other"] (sp_two (fun q r => q + r) (fun _ => True)) := by
  have G__law_share := ok__law_share (P := P) (w := w) (base := base) T
  refine T.F__law_plus.ok sc__law_plus (fun vs H Q E h => two_len h) (fun cdv A outer s H vs Q E hr h => ?_)
  obtain ⟨_, _, q, r, rfl, ⟨p1, rfl, h1⟩, ⟨p2, rfl, h2⟩, ⟨bq, bq'⟩, ⟨br, br'⟩, ok, k⟩ := h
  refine ⟨_, (pss_one (ps_ret (pe_call G__law_share (hr.mono (by first | decide | omega)) (by rfl) T.g__law_share T.F__law_share.kp T.b__law_share .nil pass0 (pa_cons (pe_op op_add (pe_op op_mulX (pe_ix ix_tup (pv 0) pe_int (fun _ _ => rfl)) (pe_ix ix_tup (pv 1) pe_int (fun _ _ => rfl))) (pe_op op_mulX (pe_ix ix_tup (pv 1) pe_int (fun _ _ => rfl)) (pe_ix ix_tup (pv 0) pe_int (fun _ _ => rfl)))) (pa_cons (pe_op op_mulX (pe_ix ix_tup (pv 0) pe_int (fun _ _ => rfl)) (pe_ix ix_tup (pv 1) pe_int (fun _ _ => rfl))) pa_nil))))), ?_⟩
  refine rd_ixT rfl h1 rfl (rd_ixT rfl h2 rfl (rd_mul bq br' (by decide) (rd_ixT rfl h2 rfl (rd_ixT rfl h1 rfl (rd_mul br bq' (by decide) (rd_i0 (rd_ixT rfl h1 rfl (rd_ixT rfl h2 rfl (rd_mul bq' br' (by decide) ?_)))))))))
  exact ⟨_, _, rfl, Int.mul_ne_zero (den_ne q) (den_ne r), (bq'.mul br').mono (by decide), fun H' v s f => k H' v s (by rw [rat_sum] at f; exact f)⟩
theorem ok__law_times (T : Tx K mg) : FnOk P w K mg base CX0 3 T.f__law_times T.d__law_times ["_law_one", "_law_other"] (sp_two (fun q r => q * r) (fun _ => True)) := by
  have G__law_share := ok__law_share (P := P) (w := w) (base := base) T
  refine T.F__law_times.ok sc__law_times (fun vs H Q E h => two_len h) (fun cdv A outer s H vs Q E hr h => ?_)
  obtain ⟨_, _, q, r, rfl, ⟨p1, rfl, h1⟩, ⟨p2, rfl, h2⟩, ⟨bq, bq'⟩, ⟨br, br'⟩, ok, k⟩ := h
  refine ⟨_, (pss_one (ps_ret (pe_call G__law_share (hr.mono (by first | decide | omega)) (by rfl) T.g__law_share T.F__law_share.kp T.b__law_share .nil pass0 (pa_cons (pe_op op_mulX (pe_ix ix_tup (pv 0) pe_int (fun _ _ => rfl)) (pe_ix ix_tup (pv 1) pe_int (fun _ _ => rfl))) (pa_cons (pe_op op_mulX (pe_ix ix_tup (pv 0) pe_int (fun _ _ => rfl)) (pe_ix ix_tup (pv 1) pe_int (fun _ _ => rfl))) pa_nil))))), ?_⟩
  refine rd_ixT rfl h1 rfl (rd_ixT rfl h2 rfl (rd_mul bq br (by decide) (rd_ixT rfl h1 rfl (rd_ixT rfl h2 rfl (rd_mul bq' br' (by decide) ?_)))))
  exact ⟨_, _, rfl, Int.mul_ne_zero (den_ne q) (den_ne r), (bq'.mul br').mono (by decide), fun H' v s f => k H' v s (by rw [rat_prod] at f; exact f)⟩
end

theorem Dk.apart {K : PySem.W.Frag} {H : Hp} {d l s D : Addr} {ns : List Int} {c : Nat} (h : Dk K H d l s ns c) (nD : H D = none) : D ≠ d ∧ D ≠ l ∧ ((∀ H', SqL K H' s (ns.map V.int)) ∨ s ≠ D) := by
  obtain ⟨xs, i, k, h1, h2, _, h4⟩ := h
  refine ⟨(ne_of_none h1 nD).symm, (ne_of_none h2 nD).symm, ?_⟩
  rcases h4 with h4 | ⟨h4, _, _⟩
  · exact .inl h4
  · rcases h4 with (h | ⟨o, h⟩) | h
    · exact .inr (ne_of_none h nD)
    · exact .inr (ne_of_none h nD)
    · exact .inl fun _ => .inr h
theorem Dk.beside {K : PySem.W.Frag} {H : Hp} {d l s D : Addr} {o : HO} {ns : List Int} {c : Nat} (h : Dk K H d l s ns c) (a : D ≠ d ∧ D ≠ l ∧ ((∀ H', SqL K H' s (ns.map V.int)) ∨ s ≠ D)) : Dk K (upd H D o) d l s ns c := by
  obtain ⟨xs, i, k, h1, h2, h3, h4⟩ := h
  obtain ⟨a1, a2, a3⟩ := a
  refine ⟨xs, i, k, ?_, ?_, h3, ?_⟩
  · rw [upd_ne a1.symm]
    exact h1
  · rw [upd_ne a2.symm]
    exact h2
  · rcases a3 with a3 | a3
    · exact .inl a3
    · rcases h4 with h4 | ⟨(h | ⟨z, h⟩) | h, b1, b2⟩
      · exact .inl h4
      · refine .inr ⟨.inl (.inl ?_), b1, b2⟩
        rw [upd_ne a3]
        exact h
      · refine .inr ⟨.inl (.inr ⟨z, ?_⟩), b1, b2⟩
        rw [upd_ne a3]
        exact h
      · exact .inl fun _ => .inr h

/-! ### real numbers: rows of fractions that come together -/
def Cau (f : Nat → Rat) : Prop := ∀ ε : Rat, 0 < ε → ∃ N : Nat, ∀ m n : Nat, N ≤ m → N ≤ n → f m - f n < ε
def Near (f g : Nat → Rat) : Prop := ∀ ε : Rat, 0 < ε → ∃ N : Nat, ∀ n : Nat, N ≤ n → f n - g n < ε ∧ g n - f n < ε
theorem Near.of_eq {f g : Nat → Rat} (h : ∀ n, f n = g n) : Near f g := fun ε hε => ⟨0, fun n _ => by
  have := h n
  grind⟩
theorem Near.symm {f g : Nat → Rat} (h : Near f g) : Near g f := fun ε hε => by
  obtain ⟨N, hN⟩ := h ε hε
  exact ⟨N, fun n hn => ⟨(hN n hn).2, (hN n hn).1⟩⟩
theorem Near.trans {f g k : Nat → Rat} (h1 : Near f g) (h2 : Near g k) : Near f k := fun ε hε => by
  obtain ⟨N, hN⟩ := h1 (ε / 2) (by grind)
  obtain ⟨M, hM⟩ := h2 (ε / 2) (by grind)
  refine ⟨N + M, fun n hn => ?_⟩
  have a := hN n (by omega)
  have b := hM n (by omega)
  grind
theorem cau_const (q : Rat) : Cau fun _ => q := fun ε hε => ⟨0, fun m n _ _ => by grind⟩
theorem Cau.add {f g : Nat → Rat} (h1 : Cau f) (h2 : Cau g) : Cau fun n => f n + g n := fun ε hε => by
  obtain ⟨N, hN⟩ := h1 (ε / 2) (by grind)
  obtain ⟨M, hM⟩ := h2 (ε / 2) (by grind)
  refine ⟨N + M, fun m n hm hn => ?_⟩
  have a := hN m n (by omega) (by omega)
  have b := hM m n (by omega) (by omega)
  grind
theorem Cau.neg {f : Nat → Rat} (h1 : Cau f) : Cau fun n => -f n := fun ε hε => by
  obtain ⟨N, hN⟩ := h1 ε hε
  refine ⟨N, fun m n hm hn => ?_⟩
  have a := hN n m hn hm
  grind
/-- from some place on it is bounded -/
theorem Cau.bound {f : Nat → Rat} (h : Cau f) : ∃ B : Rat, 0 < B ∧ ∃ N : Nat, ∀ n, N ≤ n → -B < f n ∧ f n < B := by
  obtain ⟨N, hN⟩ := h 1 (by decide)
  by_cases h0 : 0 ≤ f N
  · refine ⟨f N + 1, by grind, N, fun n hn => ?_⟩
    have a := hN n N hn (Nat.le_refl _)
    have b := hN N n (Nat.le_refl _) hn
    grind
  · refine ⟨1 - f N, by grind, N, fun n hn => ?_⟩
    have a := hN n N hn (Nat.le_refl _)
    have b := hN N n (Nat.le_refl _) hn
    grind
theorem prod_lt {B x d y : Rat} (h1 : -B < x) (h2 : x < B) (h3 : -d < y) (h4 : y < d) : x * y < B * d ∧ -(B * d) < x * y := by
  have a1 := Rat.mul_pos (show 0 < B - x by grind) (show 0 < d + y by grind)
  have a2 := Rat.mul_pos (show 0 < B + x by grind) (show 0 < d - y by grind)
  have a3 := Rat.mul_pos (show 0 < B - x by grind) (show 0 < d - y by grind)
  have a4 := Rat.mul_pos (show 0 < B + x by grind) (show 0 < d + y by grind)
  constructor <;> grind
theorem Cau.mul {f g : Nat → Rat} (h1 : Cau f) (h2 : Cau g) : Cau fun n => f n * g n := fun ε hε => by
  obtain ⟨A, hA, N1, b1⟩ := h1.bound
  obtain ⟨B, hB, N2, b2⟩ := h2.bound
  have eA : 0 < ε / (2 * A) := by
    rw [Rat.div_def]
    exact Rat.mul_pos hε (Rat.inv_pos.mpr (by grind))
  have eB : 0 < ε / (2 * B) := by
    rw [Rat.div_def]
    exact Rat.mul_pos hε (Rat.inv_pos.mpr (by grind))
  obtain ⟨M1, c1⟩ := h1 _ eB
  obtain ⟨M2, c2⟩ := h2 _ eA
  refine ⟨N1 + N2 + M1 + M2, fun m n hm hn => ?_⟩
  have x1 := b1 m (by omega)
  have x2 := b2 n (by omega)
  have y1 := c1 m n (by omega) (by omega)
  have y2 := c1 n m (by omega) (by omega)
  have z1 := c2 m n (by omega) (by omega)
  have z2 := c2 n m (by omega) (by omega)
  have p1 := (prod_lt x1.1 x1.2 (show -(ε / (2 * A)) < g m - g n by grind) z1).1
  have p2 := (prod_lt x2.1 x2.2 (show -(ε / (2 * B)) < f m - f n by grind) y1).1
  have e1 : A * (ε / (2 * A)) = ε / 2 := by grind
  have e2 : B * (ε / (2 * B)) = ε / 2 := by grind
  rw [e1] at p1
  rw [e2] at p2
  grind
theorem Near.add {f f' g g' : Nat → Rat} (h1 : Near f f') (h2 : Near g g') : Near (fun n => f n + g n) (fun n => f' n + g' n) := fun ε hε => by
  obtain ⟨N, hN⟩ := h1 (ε / 2) (by grind)
  obtain ⟨M, hM⟩ := h2 (ε / 2) (by grind)
  refine ⟨N + M, fun n hn => ?_⟩
  have a := hN n (by omega)
  have b := hM n (by omega)
  grind
theorem Near.neg {f f' : Nat → Rat} (h1 : Near f f') : Near (fun n => -f n) (fun n => -f' n) := fun ε hε => by
  obtain ⟨N, hN⟩ := h1 ε hε
  refine ⟨N, fun n hn => ?_⟩
  have a := hN n hn
  grind
theorem Near.mul {f f' g g' : Nat → Rat} (cf : Cau f) (cg : Cau g') (h1 : Near f f') (h2 : Near g g') : Near (fun n => f n * g n) (fun n => f' n * g' n) := fun ε hε => by
  obtain ⟨A, hA, N1, b1⟩ := cf.bound
  obtain ⟨B, hB, N2, b2⟩ := cg.bound
  have eA : 0 < ε / (2 * A) := by
    rw [Rat.div_def]
    exact Rat.mul_pos hε (Rat.inv_pos.mpr (by grind))
  have eB : 0 < ε / (2 * B) := by
    rw [Rat.div_def]
    exact Rat.mul_pos hε (Rat.inv_pos.mpr (by grind))
  obtain ⟨M1, c1⟩ := h1 _ eB
  obtain ⟨M2, c2⟩ := h2 _ eA
  refine ⟨N1 + N2 + M1 + M2, fun n hn => ?_⟩
  have x1 := b1 n (by omega)
  have x2 := b2 n (by omega)
  have y1 := c1 n (by omega)
  have z1 := c2 n (by omega)
  have p1 := prod_lt x1.1 x1.2 (show -(ε / (2 * A)) < g n - g' n by grind) z1.1
  have p2 := prod_lt x2.1 x2.2 (show -(ε / (2 * B)) < f n - f' n by grind) y1.1
  have e1 : A * (ε / (2 * A)) = ε / 2 := by grind
  have e2 : B * (ε / (2 * B)) = ε / 2 := by grind
  rw [e1] at p1
  rw [e2] at p2
  grind
/-- it is less by some fraction, from some place on -/
def Lt (f g : Nat → Rat) : Prop := ∃ ε : Rat, 0 < ε ∧ ∃ N : Nat, ∀ n, N ≤ n → f n + ε < g n
theorem Lt.near {f f' g g' : Nat → Rat} (h1 : Near f f') (h2 : Near g g') (h : Lt f g) : Lt f' g' := by
  obtain ⟨ε, hε, N, hN⟩ := h
  obtain ⟨A, hA⟩ := h1 (ε / 4) (by grind)
  obtain ⟨B, hB⟩ := h2 (ε / 4) (by grind)
  refine ⟨ε / 2, by grind, N + A + B, fun n hn => ?_⟩
  have a := hN n (by omega)
  have b := hA n (by omega)
  have c := hB n (by omega)
  grind
theorem Lt.trans {f g k : Nat → Rat} (h1 : Lt f g) (h2 : Lt g k) : Lt f k := by
  obtain ⟨ε, hε, N, hN⟩ := h1
  obtain ⟨δ, hδ, M, hM⟩ := h2
  refine ⟨ε, hε, N + M, fun n hn => ?_⟩
  have a := hN n (by omega)
  have b := hM n (by omega)
  grind
theorem Lt.irrefl {f : Nat → Rat} (h : Lt f f) : False := by
  obtain ⟨ε, hε, N, hN⟩ := h
  have a := hN N (Nat.le_refl _)
  grind
theorem tri {f g : Nat → Rat} (cf : Cau f) (cg : Cau g) (h : ¬ Near f g) : Lt f g ∨ Lt g f := by
  unfold Near at h
  simp only [Classical.not_forall, not_exists] at h
  obtain ⟨ε, hε, h⟩ := h
  obtain ⟨A, hA⟩ := cf (ε / 4) (by grind)
  obtain ⟨B, hB⟩ := cg (ε / 4) (by grind)
  obtain ⟨n, hn, hb⟩ := h (A + B)
  by_cases c : f n - g n < ε
  · refine .inl ⟨ε / 4, by grind, A + B, fun m hm => ?_⟩
    have a1 := hA m n (by omega) (by omega)
    have a2 := hB n m (by omega) (by omega)
    have a3 : ¬ g n - f n < ε := fun z => hb ⟨c, z⟩
    grind
  · refine .inr ⟨ε / 4, by grind, A + B, fun m hm => ?_⟩
    have a1 := hA n m (by omega) (by omega)
    have a2 := hB m n (by omega) (by omega)
    grind
def CS : Type := { f : Nat → Rat // Cau f }
def csS : Setoid CS := ⟨fun f g => Near f.1 g.1, ⟨fun f => Near.of_eq fun _ => rfl, fun h => h.symm, fun h k => h.trans k⟩⟩
/-- the real numbers -/
def Re : Type := Quotient csS
namespace Re
def mk (f : CS) : Re := Quotient.mk csS f
theorem snd {f g : CS} (h : Near f.1 g.1) : mk f = mk g := Quotient.sound (s := csS) h
theorem ex {f g : CS} (h : mk f = mk g) : Near f.1 g.1 := Quotient.exact (s := csS) h
def rat (q : Rat) : Re := mk ⟨fun _ => q, cau_const q⟩
def add (x y : Re) : Re := Quotient.liftOn₂ (s₁ := csS) (s₂ := csS) x y (fun f g => mk ⟨fun n => f.1 n + g.1 n, f.2.add g.2⟩) fun _ _ _ _ h k => snd (Near.add h k)
def neg (x : Re) : Re := Quotient.liftOn (s := csS) x (fun f => mk ⟨fun n => -f.1 n, f.2.neg⟩) fun _ _ h => snd (Near.neg h)
def mul (x y : Re) : Re := Quotient.liftOn₂ (s₁ := csS) (s₂ := csS) x y (fun f g => mk ⟨fun n => f.1 n * g.1 n, f.2.mul g.2⟩) fun f _ _ g' h k => snd (Near.mul f.2 g'.2 h k)
def lt (x y : Re) : Prop := Quotient.liftOn₂ (s₁ := csS) (s₂ := csS) x y (fun f g => Lt f.1 g.1) fun _ _ _ _ h k => propext ⟨fun z => z.near h k, fun z => z.near h.symm k.symm⟩
noncomputable instance : Add Re := ⟨add⟩
noncomputable instance : Neg Re := ⟨neg⟩
noncomputable instance : Mul Re := ⟨mul⟩
noncomputable instance : Sub Re := ⟨fun x y => x + -y⟩
instance : LT Re := ⟨lt⟩
instance : LE Re := ⟨fun x y => ¬ lt y x⟩
noncomputable instance : NatCast Re := ⟨fun n => rat (n : Rat)⟩
noncomputable instance : IntCast Re := ⟨fun n => rat (n : Rat)⟩
noncomputable instance (n : Nat) : OfNat Re n := ⟨rat (n : Rat)⟩
noncomputable instance : SMul Nat Re := ⟨fun n x => (n : Re) * x⟩
noncomputable instance : SMul Int Re := ⟨fun n x => (n : Re) * x⟩
noncomputable def pow (x : Re) : Nat → Re
  | 0 => 1
  | n + 1 => pow x n * x
noncomputable instance : HPow Re Nat Re := ⟨pow⟩
theorem ind {p : Re → Prop} (h : ∀ f : CS, p (mk f)) (x : Re) : p x := Quotient.ind (s := csS) h x
theorem rat_add (a b : Rat) : rat (a + b) = rat a + rat b := rfl
theorem rat_mul (a b : Rat) : rat (a * b) = rat a * rat b := rfl
theorem rat_neg (a : Rat) : rat (-a) = -rat a := rfl
theorem pw {f g : CS} (h : ∀ n, f.1 n = g.1 n) : mk f = mk g := snd (Near.of_eq h)
theorem add_comm (x y : Re) : x + y = y + x := by
  induction x using ind with | h f =>
  induction y using ind with | h g =>
  exact pw fun n => by show f.1 n + g.1 n = g.1 n + f.1 n; grind
theorem add_assoc (x y z : Re) : x + y + z = x + (y + z) := by
  induction x using ind with | h f =>
  induction y using ind with | h g =>
  induction z using ind with | h k =>
  exact pw fun n => by show f.1 n + g.1 n + k.1 n = f.1 n + (g.1 n + k.1 n); grind
theorem add_zero (x : Re) : x + 0 = x := by
  induction x using ind with | h f =>
  exact pw fun n => by show f.1 n + ((0 : Nat) : Rat) = f.1 n; grind
theorem neg_add_cancel (x : Re) : -x + x = 0 := by
  induction x using ind with | h f =>
  exact pw fun n => by show -f.1 n + f.1 n = ((0 : Nat) : Rat); grind
theorem mul_comm (x y : Re) : x * y = y * x := by
  induction x using ind with | h f =>
  induction y using ind with | h g =>
  exact pw fun n => by show f.1 n * g.1 n = g.1 n * f.1 n; grind
theorem mul_assoc (x y z : Re) : x * y * z = x * (y * z) := by
  induction x using ind with | h f =>
  induction y using ind with | h g =>
  induction z using ind with | h k =>
  exact pw fun n => by show f.1 n * g.1 n * k.1 n = f.1 n * (g.1 n * k.1 n); grind
theorem mul_one (x : Re) : x * 1 = x := by
  induction x using ind with | h f =>
  exact pw fun n => by show f.1 n * ((1 : Nat) : Rat) = f.1 n; grind
theorem zero_mul (x : Re) : 0 * x = 0 := by
  induction x using ind with | h f =>
  exact pw fun n => by show ((0 : Nat) : Rat) * f.1 n = ((0 : Nat) : Rat); grind
theorem left_distrib (x y z : Re) : x * (y + z) = x * y + x * z := by
  induction x using ind with | h f =>
  induction y using ind with | h g =>
  induction z using ind with | h k =>
  exact pw fun n => by show f.1 n * (g.1 n + k.1 n) = f.1 n * g.1 n + f.1 n * k.1 n; grind
theorem cast_succ (a : Nat) : rat ((a + 1 : Nat) : Rat) = rat (a : Rat) + rat ((1 : Nat) : Rat) := by
  rw [← rat_add]
  congr 1
  exact Rat.natCast_add a 1
theorem neg_mul' (x y : Re) : -x * y = -(x * y) := by
  induction x using ind with | h f =>
  induction y using ind with | h g =>
  exact pw fun n => by show -f.1 n * g.1 n = -(f.1 n * g.1 n); grind
theorem int_neg (i : Int) : rat ((-i : Int) : Rat) = -rat (i : Rat) := by
  rw [← rat_neg]
  congr 1
noncomputable instance : Lean.Grind.CommRing Re where
  add_zero := add_zero
  add_comm := add_comm
  add_assoc := add_assoc
  mul_assoc := mul_assoc
  mul_one := mul_one
  one_mul := fun x => by rw [mul_comm, mul_one]
  left_distrib := left_distrib
  right_distrib := fun x y z => by rw [mul_comm, left_distrib, mul_comm z x, mul_comm z y]
  zero_mul := zero_mul
  mul_zero := fun x => by rw [mul_comm, zero_mul]
  pow_zero := fun _ => rfl
  pow_succ := fun _ _ => rfl
  ofNat_succ := cast_succ
  ofNat_eq_natCast := fun _ => rfl
  nsmul_eq_natCast_mul := fun _ _ => rfl
  neg_add_cancel := neg_add_cancel
  sub_eq_add_neg := fun _ _ => rfl
  neg_zsmul := fun i x => by
    show rat ((-i : Int) : Rat) * x = -(rat (i : Rat) * x)
    rw [int_neg, neg_mul']
  zsmul_natCast_eq_nsmul := fun n x => by
    show rat (((n : Nat) : Int) : Rat) * x = rat ((n : Nat) : Rat) * x
    rfl
  intCast_ofNat := fun n => by
    show rat (((OfNat.ofNat n : Int)) : Rat) = rat ((n : Nat) : Rat)
    rfl
  intCast_neg := int_neg
  mul_comm := mul_comm
theorem lt_trans {x y z : Re} (h1 : x < y) (h2 : y < z) : x < z := by
  induction x using ind with | h f =>
  induction y using ind with | h g =>
  induction z using ind with | h k =>
  exact Lt.trans h1 h2
theorem lt_irrefl (x : Re) : ¬ x < x := by
  induction x using ind with | h f =>
  exact fun h => Lt.irrefl h
theorem lt_tri (x y : Re) : x < y ∨ x = y ∨ y < x := by
  induction x using ind with | h f =>
  induction y using ind with | h g =>
  by_cases h : Near f.1 g.1
  · exact .inr (.inl (snd h))
  · rcases tri f.2 g.2 h with h | h
    · exact .inl h
    · exact .inr (.inr h)
theorem le_iff (x y : Re) : x ≤ y ↔ x < y ∨ x = y := by
  constructor
  · intro h
    rcases lt_tri x y with z | z | z
    · exact .inl z
    · exact .inr z
    · exact absurd z h
  · rintro (h | rfl) z
    · exact lt_irrefl _ (lt_trans h z)
    · exact lt_irrefl _ z
instance : Std.IsLinearOrder Re where
  le_refl := fun x => (le_iff x x).mpr (.inr rfl)
  le_trans := fun x y z h1 h2 => by
    rw [le_iff] at *
    rcases h1 with h1 | rfl
    · rcases h2 with h2 | rfl
      · exact .inl (lt_trans h1 h2)
      · exact .inl h1
    · exact h2
  le_antisymm := fun x y h1 h2 => by
    rw [le_iff] at *
    rcases h1 with h1 | h1
    · rcases h2 with h2 | h2
      · exact absurd (lt_trans h1 h2) (lt_irrefl _)
      · exact h2.symm
    · exact h1
  le_total := fun x y => by
    rw [le_iff, le_iff]
    rcases lt_tri x y with z | z | z
    · exact .inl (.inl z)
    · exact .inl (.inr z)
    · exact .inr (.inl z)
instance : Std.LawfulOrderLT Re where
  lt_iff := fun x y => by
    rw [le_iff, le_iff]
    constructor
    · intro h
      refine ⟨.inl h, ?_⟩
      rintro (z | rfl)
      · exact lt_irrefl _ (lt_trans h z)
      · exact lt_irrefl _ h
    · rintro ⟨h | rfl, z⟩
      · exact h
      · exact absurd (.inr rfl) z
theorem add_lt {x y : Re} (z : Re) : x < y ↔ x + z < y + z := by
  induction x using ind with | h f =>
  induction y using ind with | h g =>
  induction z using ind with | h k =>
  constructor
  · rintro ⟨ε, hε, N, hN⟩
    exact ⟨ε, hε, N, fun n hn => by have := hN n hn; show f.1 n + k.1 n + ε < g.1 n + k.1 n; grind⟩
  · rintro ⟨ε, hε, N, hN⟩
    refine ⟨ε, hε, N, fun n hn => ?_⟩
    have : f.1 n + k.1 n + ε < g.1 n + k.1 n := hN n hn
    grind
theorem mul_lt {x y z : Re} (h : x < y) (hz : 0 < z) : z * x < z * y := by
  induction x using ind with | h f =>
  induction y using ind with | h g =>
  induction z using ind with | h k =>
  obtain ⟨ε, hε, N, hN⟩ := h
  obtain ⟨δ, hδ, M, hM⟩ := hz
  refine ⟨δ * ε, Rat.mul_pos hδ hε, N + M, fun n hn => ?_⟩
  have a := hN n (by omega)
  have b : ((0 : Nat) : Rat) + δ < k.1 n := hM n (by omega)
  show k.1 n * f.1 n + δ * ε < k.1 n * g.1 n
  have c := Rat.mul_pos (show 0 < k.1 n - δ by grind) (show 0 < g.1 n - f.1 n by grind)
  have e := Rat.mul_pos hδ (show 0 < g.1 n - f.1 n - ε by grind)
  grind
instance : Lean.Grind.OrderedRing Re where
  add_le_left_iff := fun {x y} z => by
    show ¬ y < x ↔ ¬ y + z < x + z
    rw [← add_lt]
  zero_lt_one := ⟨1 / 2, by grind, 0, fun n _ => by show ((0 : Nat) : Rat) + 1 / 2 < ((1 : Nat) : Rat); grind⟩
  mul_lt_mul_of_pos_left := mul_lt
  mul_lt_mul_of_pos_right := fun {x y z} h hz => by
    rw [mul_comm x z, mul_comm y z]
    exact mul_lt h hz
theorem rat_lt {a b : Rat} : rat a < rat b ↔ a < b := by
  constructor
  · rintro ⟨ε, hε, N, hN⟩
    have : a + ε < b := hN N (Nat.le_refl _)
    grind
  · intro h
    exact ⟨(b - a) / 2, by grind, 0, fun n _ => by show a + (b - a) / 2 < b; grind⟩
theorem rat_inj {a b : Rat} (h : rat a = rat b) : a = b := by
  have h1 : ¬ a < b := fun z => lt_irrefl (rat b) (by have := rat_lt.mpr z; rw [h] at this; exact this)
  have h2 : ¬ b < a := fun z => lt_irrefl (rat b) (by have := rat_lt.mpr z; rw [h] at this; exact this)
  grind

/-! ### roots -/
theorem nat_root (m : Nat) : ∃ k : Nat, k * k ≤ m ∧ m < (k + 1) * (k + 1) := by
  induction m with
  | zero => exact ⟨0, by decide, by decide⟩
  | succ m ih =>
    obtain ⟨k, h1, h2⟩ := ih
    by_cases h : m + 1 < (k + 1) * (k + 1)
    · exact ⟨k, by omega, h⟩
    · refine ⟨k + 1, by omega, ?_⟩
      have e : (k + 1 + 1) * (k + 1 + 1) = (k + 1) * (k + 1) + 2 * (k + 1) + 1 := by grind
      omega
theorem rat_root {a : Rat} (ha : 0 ≤ a) (n : Nat) : ∃ s : Rat, 0 ≤ s ∧ s * s ≤ a ∧ a < (s + 1 / ((n : Rat) + 1)) * (s + 1 / ((n : Rat) + 1)) := by
  have hN : (0 : Rat) < (n : Rat) + 1 := by
    have : (0 : Rat) ≤ (n : Rat) := Rat.natCast_nonneg
    grind
  generalize (n : Rat) + 1 = N at hN
  have hb : 0 ≤ a * (N * N) := Rat.mul_nonneg ha (Rat.le_of_lt (Rat.mul_pos hN hN))
  have f0 : 0 ≤ (a * (N * N)).floor := Rat.le_floor_iff.mpr hb
  have f1 := Rat.floor_le (a * (N * N))
  have f2 := Rat.lt_floor_add_one (a * (N * N))
  obtain ⟨k, k1, k2⟩ := nat_root (a * (N * N)).floor.toNat
  have e : (((a * (N * N)).floor.toNat : Nat) : Rat) = ((a * (N * N)).floor : Rat) := by
    have : (((a * (N * N)).floor.toNat : Nat) : Int) = (a * (N * N)).floor := Int.toNat_of_nonneg f0
    rw [← this]
    rfl
  have c1 : (k : Rat) * (k : Rat) ≤ a * (N * N) := by
    have : ((k * k : Nat) : Rat) ≤ (((a * (N * N)).floor.toNat : Nat) : Rat) := Rat.natCast_le_natCast.mpr k1
    rw [e, Rat.natCast_mul] at this
    grind
  have c2 : a * (N * N) < ((k : Rat) + 1) * ((k : Rat) + 1) := by
    have : ((((a * (N * N)).floor.toNat + 1 : Nat)) : Rat) ≤ (((k + 1) * (k + 1) : Nat) : Rat) := Rat.natCast_le_natCast.mpr k2
    rw [Rat.natCast_add, e, Rat.natCast_mul, Rat.natCast_add] at this
    have f3 : ((((a * (N * N)).floor + 1 : Int)) : Rat) = ((a * (N * N)).floor : Rat) + 1 := Rat.intCast_add _ _
    rw [f3] at f2
    have o : ((1 : Nat) : Rat) = 1 := rfl
    rw [o] at this
    grind
  have hi : 0 < N⁻¹ := Rat.inv_pos.mpr hN
  have hi2 := Rat.mul_pos hi hi
  have kn : (0 : Rat) ≤ (k : Rat) := Rat.natCast_nonneg
  refine ⟨(k : Rat) * N⁻¹, Rat.mul_nonneg kn (Rat.le_of_lt hi), ?_, ?_⟩
  · have := Rat.mul_le_mul_of_nonneg_right c1 (Rat.le_of_lt hi2)
    have e1 : a * (N * N) * (N⁻¹ * N⁻¹) = a := by grind
    grind
  · have := Rat.mul_lt_mul_of_pos_right c2 hi2
    have e1 : a * (N * N) * (N⁻¹ * N⁻¹) = a := by grind
    have e2 : 1 / N = N⁻¹ := by grind
    grind
theorem small_step {ε : Rat} (h : 0 < ε) : ∃ N : Nat, ∀ n : Nat, N ≤ n → 1 / ((n : Rat) + 1) < ε := by
  refine ⟨ε.den, fun n hn => ?_⟩
  have h1 : (0 : Rat) < (n : Rat) + 1 := by
    have : (0 : Rat) ≤ (n : Rat) := Rat.natCast_nonneg
    grind
  have h2 : (ε.den : Rat) ≤ (n : Rat) := Rat.natCast_le_natCast.mpr hn
  have h3 : ε * (ε.den : Rat) = (ε.num : Rat) := by
    have e := Rat.num_divInt_den ε
    rw [Rat.divInt_eq_div] at e
    have d : ((ε.den : Int) : Rat) = (ε.den : Rat) := rfl
    have z : (0 : Rat) < (ε.den : Rat) := Rat.natCast_lt_natCast.mpr ε.den_pos
    rw [d] at e
    generalize (ε.den : Rat) = D at *
    generalize (ε.num : Rat) = M at *
    rw [← e]
    grind
  have h4 : (1 : Rat) ≤ (ε.num : Rat) := by
    have a1 : 0 ≤ ε.num := Rat.num_nonneg.mpr (Rat.le_of_lt h)
    have a2 : ε.num ≠ 0 := fun z => by
      rw [Rat.num_eq_zero] at z
      grind
    have : 0 < ε.num := by omega
    exact Rat.intCast_le_intCast.mpr (show (1 : Int) ≤ ε.num by omega)
  have h5 : 1 < ε * ((n : Rat) + 1) := by
    have := Rat.mul_le_mul_of_nonneg_left h2 (Rat.le_of_lt h)
    grind
  have hi : 0 < ((n : Rat) + 1)⁻¹ := Rat.inv_pos.mpr h1
  have := Rat.mul_lt_mul_of_pos_right h5 hi
  generalize (n : Rat) + 1 = N at *
  have e1 : ε * N * N⁻¹ = ε := by grind
  have e2 : 1 / N = 1 * N⁻¹ := by grind
  grind
/-! ### the field -/
theorem ex_inv (x : Re) (hx : x ≠ 0) : ∃ y : Re, x * y = 1 := by
  induction x using ind with | h f =>
  have ap : ∃ ε : Rat, 0 < ε ∧ ∃ N : Nat, ∀ n, N ≤ n → ε < f.1 n ∨ f.1 n < -ε := by
    rcases lt_tri (mk f) 0 with h | h | h
    · obtain ⟨ε, hε, N, hN⟩ := h
      refine ⟨ε / 2, by grind, N, fun n hn => .inr ?_⟩
      have : f.1 n + ε < ((0 : Nat) : Rat) := hN n hn
      grind
    · exact absurd h hx
    · obtain ⟨ε, hε, N, hN⟩ := h
      refine ⟨ε / 2, by grind, N, fun n hn => .inl ?_⟩
      have : ((0 : Nat) : Rat) + ε < f.1 n := hN n hn
      grind
  obtain ⟨ε, hε, N, hN⟩ := ap
  have sq : ∀ n, N ≤ n → f.1 n ≠ 0 := fun n hn z => by
    rcases hN n hn with h | h <;> grind
  have big : ∀ m n, N ≤ m → N ≤ n → ε * ε < f.1 m * f.1 n ∨ f.1 m * f.1 n < -(ε * ε) := fun m n hm hn => by
    rcases hN m hm with h | h
    · rcases hN n hn with k | k
      · have := Rat.mul_pos (show 0 < f.1 m - ε by grind) (show 0 < f.1 n by grind)
        have := Rat.mul_pos hε (show 0 < f.1 n - ε by grind)
        exact .inl (by grind)
      · have := Rat.mul_pos (show 0 < f.1 m - ε by grind) (show 0 < -f.1 n by grind)
        have := Rat.mul_pos hε (show 0 < -f.1 n - ε by grind)
        exact .inr (by grind)
    · rcases hN n hn with k | k
      · have := Rat.mul_pos (show 0 < -f.1 m - ε by grind) (show 0 < f.1 n by grind)
        have := Rat.mul_pos hε (show 0 < f.1 n - ε by grind)
        exact .inr (by grind)
      · have := Rat.mul_pos (show 0 < -f.1 m - ε by grind) (show 0 < -f.1 n by grind)
        have := Rat.mul_pos hε (show 0 < -f.1 n - ε by grind)
        exact .inl (by grind)
  have cg : Cau fun n => (f.1 n)⁻¹ := fun δ hδ => by
    have hd : 0 < δ * (ε * ε) := Rat.mul_pos hδ (Rat.mul_pos hε hε)
    obtain ⟨M, hM⟩ := f.2 _ hd
    refine ⟨N + M, fun m n hm hn => ?_⟩
    have a := hM n m (by omega) (by omega)
    have a' := hM m n (by omega) (by omega)
    have b := big m n (by omega) (by omega)
    have z1 := sq m (by omega)
    have z2 := sq n (by omega)
    show (f.1 m)⁻¹ - (f.1 n)⁻¹ < δ
    generalize f.1 m = u at *
    generalize f.1 n = v at *
    have e : (u⁻¹ - v⁻¹) * (u * v) = v - u := by grind
    generalize u⁻¹ - v⁻¹ = w at *
    have ee : 0 < ε * ε := Rat.mul_pos hε hε
    generalize ε * ε = E at *
    generalize u * v = p at *
    refine Decidable.byContradiction fun nw => ?_
    have nw : δ ≤ w := by grind
    rcases b with b | b
    · have := Rat.mul_pos hδ (show 0 < p - E by grind)
      have := Rat.mul_nonneg (show 0 ≤ w - δ by grind) (show 0 ≤ p by grind)
      grind
    · have := Rat.mul_pos hδ (show 0 < -p - E by grind)
      have := Rat.mul_nonneg (show 0 ≤ w - δ by grind) (show 0 ≤ -p by grind)
      grind
  refine ⟨mk ⟨_, cg⟩, snd fun δ hδ => ⟨N, fun n hn => ?_⟩⟩
  have z := sq n hn
  show f.1 n * (f.1 n)⁻¹ - ((1 : Nat) : Rat) < δ ∧ ((1 : Nat) : Rat) - f.1 n * (f.1 n)⁻¹ < δ
  generalize f.1 n = u at *
  have e : u * u⁻¹ = 1 := by grind
  rw [e]
  constructor <;> grind
open Classical in
noncomputable def inv (x : Re) : Re := if h : x = 0 then 0 else choose (ex_inv x h)
noncomputable instance : Inv Re := ⟨inv⟩
noncomputable instance : Div Re := ⟨fun x y => x * y⁻¹⟩
noncomputable def zpw (x : Re) : Int → Re
  | .ofNat n => x ^ n
  | .negSucc n => (x ^ (n + 1))⁻¹
noncomputable instance : HPow Re Int Re := ⟨zpw⟩
theorem inv_zero : (0 : Re)⁻¹ = 0 := dif_pos rfl
theorem mul_inv {x : Re} (h : x ≠ 0) : x * x⁻¹ = 1 := by
  show x * inv x = 1
  unfold inv
  rw [dif_neg h]
  exact Classical.choose_spec (ex_inv x h)
theorem zero_ne_one : (0 : Re) ≠ 1 := fun h => by
  have := rat_inj (a := ((0 : Nat) : Rat)) (b := ((1 : Nat) : Rat)) h
  grind
theorem inv_inv' (x : Re) : x⁻¹⁻¹ = x := by
  by_cases h : x = 0
  · rw [h, inv_zero, inv_zero]
  · have h1 := mul_inv h
    have h2 : x⁻¹ ≠ 0 := fun z => by
      rw [z] at h1
      have : x * 0 = 0 := by grind
      rw [this] at h1
      exact zero_ne_one h1
    have h3 := mul_inv h2
    grind
theorem inv_one : (1 : Re)⁻¹ = 1 := by
  have := mul_inv (x := 1) fun h => zero_ne_one h.symm
  grind
noncomputable instance : Lean.Grind.Field Re where
  div_eq_mul_inv := fun _ _ => rfl
  zero_ne_one := zero_ne_one
  inv_zero := inv_zero
  mul_inv_cancel := mul_inv
  zpow_zero := fun _ => rfl
  zpow_succ := fun _ _ => rfl
  zpow_neg := fun x n => by
    match n with
    | .ofNat 0 =>
      show (1 : Re) = (1 : Re)⁻¹
      rw [inv_one]
    | .ofNat (n + 1) => rfl
    | .negSucc n =>
      show x ^ (n + 1) = (x ^ (n + 1))⁻¹⁻¹
      rw [inv_inv']
theorem rat_inv (a : Rat) : rat a⁻¹ = (rat a)⁻¹ := by
  by_cases h : a = 0
  · subst h
    have e : (0 : Rat)⁻¹ = 0 := by grind
    rw [e]
    exact inv_zero.symm
  · have hz : rat a ≠ 0 := fun z => h (rat_inj z)
    have h1 := mul_inv hz
    have h2 : rat a * rat a⁻¹ = 1 := by
      rw [← rat_mul]
      have e : a * a⁻¹ = 1 := by grind
      rw [e]
      rfl
    grind
theorem rat_div (a b : Rat) : rat (a / b) = rat a / rat b := by
  rw [Rat.div_def, rat_mul, rat_inv]
  rfl
theorem rat_sub (a b : Rat) : rat (a - b) = rat a - rat b := by
  have e : a - b = a + -b := by grind
  rw [e, rat_add, rat_neg]
  rfl
theorem rat_le {a b : Rat} : rat a ≤ rat b ↔ a ≤ b := by
  show ¬ rat b < rat a ↔ _
  rw [rat_lt]
  grind
/-! ### the root -/
theorem ex_sqrt (x : Re) (hx : 0 ≤ x) : ∃ y : Re, 0 ≤ y ∧ y * y = x := by
  induction x using ind with | h f =>
  have near0 : ∀ ε : Rat, 0 < ε → ∃ N : Nat, ∀ n, N ≤ n → -ε < f.1 n := fun ε hε => by
    refine Classical.byContradiction fun hc => hx ?_
    obtain ⟨M, hM⟩ := f.2 (ε / 2) (by grind)
    have : ∃ n, M ≤ n ∧ f.1 n ≤ -ε := Classical.byContradiction fun hd => hc ⟨M, fun n hn => Decidable.byContradiction fun hq => hd ⟨n, hn, by grind⟩⟩
    obtain ⟨n, hn, hle⟩ := this
    refine ⟨ε / 4, by grind, M, fun m hm => ?_⟩
    have := hM m n hm hn
    show f.1 m + ε / 4 < ((0 : Nat) : Rat)
    grind
  let a : Nat → Rat := fun n => if 0 ≤ f.1 n then f.1 n else 0
  have ha : ∀ n, 0 ≤ a n := fun n => by
    show 0 ≤ if 0 ≤ f.1 n then f.1 n else 0
    split <;> grind
  have hs := fun n => rat_root (ha n) n
  let s : Nat → Rat := fun n => Classical.choose (hs n)
  have s0 : ∀ n, 0 ≤ s n := fun n => (Classical.choose_spec (hs n)).1
  have s1 : ∀ n, s n * s n ≤ a n := fun n => (Classical.choose_spec (hs n)).2.1
  have s2 : ∀ n, a n < (s n + 1 / ((n : Rat) + 1)) * (s n + 1 / ((n : Rat) + 1)) := fun n => (Classical.choose_spec (hs n)).2.2
  have ca : ∀ ε : Rat, 0 < ε → ∃ N : Nat, ∀ m n, N ≤ m → N ≤ n → a m - a n < ε := fun ε hε => by
    obtain ⟨N, hN⟩ := f.2 ε hε
    refine ⟨N, fun m n hm hn => ?_⟩
    have := hN m n hm hn
    show (if 0 ≤ f.1 m then f.1 m else 0) - (if 0 ≤ f.1 n then f.1 n else 0) < ε
    split <;> split <;> grind
  have cs : Cau s := fun ε hε => by
    have h2 : 0 < ε / 2 := by grind
    obtain ⟨N, hN⟩ := ca (ε / 2 * (ε / 2)) (Rat.mul_pos h2 h2)
    obtain ⟨M, hM⟩ := small_step h2
    refine ⟨N + M, fun m n hm hn => ?_⟩
    have k1 := hN m n (by omega) (by omega)
    have k2 := hM n (by omega)
    have k3 := s1 m
    have k4 := s2 n
    have k5 := s0 m
    have k6 := s0 n
    have k7 : 0 < 1 / ((n : Rat) + 1) := by
      have : (0 : Rat) ≤ (n : Rat) := Rat.natCast_nonneg
      rw [Rat.div_def, Rat.one_mul]
      exact Rat.inv_pos.mpr (by grind)
    generalize 1 / ((n : Rat) + 1) = δ at *
    generalize s m = u at *
    generalize s n = v at *
    refine Decidable.byContradiction fun hq => ?_
    have hq : v + ε ≤ u := by grind
    -- u u is at least (v + δ + ε / 2) (v + δ + ε / 2)
    have w1 : v + δ + ε / 2 ≤ u := by grind
    have w2 := Rat.mul_nonneg (show 0 ≤ u - (v + δ + ε / 2) by grind) (show 0 ≤ u + (v + δ + ε / 2) by grind)
    have w3 := Rat.mul_nonneg (show 0 ≤ v + δ by grind) (show 0 ≤ ε / 2 by grind)
    grind
  refine ⟨mk ⟨s, cs⟩, ?_, snd fun ε hε => ?_⟩
  · rintro ⟨ε, hε, N, hN⟩
    have : s N + ε < ((0 : Nat) : Rat) := hN N (Nat.le_refl _)
    have := s0 N
    grind
  · obtain ⟨B, hB, M1, b1⟩ := cs.bound
    have hp : 0 < ε / (2 * B + 1) := by
      rw [Rat.div_def]
      exact Rat.mul_pos hε (Rat.inv_pos.mpr (by grind))
    obtain ⟨M2, b2⟩ := small_step (show (0 : Rat) < 1 by decide)
    obtain ⟨M3, b3⟩ := small_step hp
    obtain ⟨M4, b4⟩ := near0 ε hε
    refine ⟨M1 + M2 + M3 + M4, fun n hn => ?_⟩
    have k1 := b1 n (by omega)
    have k2 := b2 n (by omega)
    have k3 := b3 n (by omega)
    have k4 := b4 n (by omega)
    have k5 := s1 n
    have k6 := s2 n
    have k7 := s0 n
    have k8 : 0 < 1 / ((n : Rat) + 1) := by
      have : (0 : Rat) ≤ (n : Rat) := Rat.natCast_nonneg
      rw [Rat.div_def, Rat.one_mul]
      exact Rat.inv_pos.mpr (by grind)
    have k9 : a n = if 0 ≤ f.1 n then f.1 n else 0 := rfl
    show s n * s n - f.1 n < ε ∧ f.1 n - s n * s n < ε
    generalize 1 / ((n : Rat) + 1) = δ at *
    generalize s n = u at *
    generalize a n = w at *
    generalize f.1 n = z at *
    have m1 := Rat.mul_pos k8 (show 0 < B - u by grind)
    have m2 := Rat.mul_pos k8 (show 0 < 1 - δ by grind)
    have m3 := Rat.mul_lt_mul_of_pos_right k3 (show 0 < 2 * B + 1 by grind)
    have e1 : ε / (2 * B + 1) * (2 * B + 1) = ε := by grind
    rw [e1] at m3
    split at k9 <;> constructor <;> grind
open Classical in
noncomputable def sqrt (x : Re) : Re := if h : 0 ≤ x then choose (ex_sqrt x h) else 0
theorem sqrt_nonneg (x : Re) : 0 ≤ sqrt x := by
  unfold sqrt
  split
  · rename_i h
    exact (Classical.choose_spec (ex_sqrt x h)).1
  · grind
theorem sqrt_sq {x : Re} (h : 0 ≤ x) : sqrt x * sqrt x = x := by
  unfold sqrt
  rw [dif_pos h]
  exact (Classical.choose_spec (ex_sqrt x h)).2
end Re

namespace Re
theorem mul_pos {x y : Re} (hx : 0 < x) (hy : 0 < y) : 0 < x * y := by
  have := mul_lt hy hx
  grind
theorem mul_nonneg {x y : Re} (hx : 0 ≤ x) (hy : 0 ≤ y) : 0 ≤ x * y := by
  rw [le_iff] at *
  rcases hx with hx | hx
  · rcases hy with hy | hy
    · exact .inl (mul_pos hx hy)
    · right
      rw [← hy]
      grind
  · right
    rw [← hx]
    grind
theorem sq_nonneg (x : Re) : 0 ≤ x * x := by
  by_cases h : 0 ≤ x
  · exact mul_nonneg h h
  · have := mul_nonneg (show 0 ≤ -x by grind) (show 0 ≤ -x by grind)
    grind
theorem mul_eq_zero {x y : Re} (h : x * y = 0) : x = 0 ∨ y = 0 := by
  by_cases hx : x = 0
  · exact .inl hx
  · right
    have := mul_inv hx
    have e : y = x⁻¹ * (x * y) := by grind
    rw [e, h]
    grind
theorem sq_eq {x y : Re} (hx : 0 ≤ x) (hy : 0 ≤ y) (h : x * x = y * y) : x = y := by
  have e : (x - y) * (x + y) = 0 := by grind
  rcases mul_eq_zero e with z | z <;> grind
theorem sq_lt {x y : Re} (hx : 0 ≤ x) (hy : 0 ≤ y) : x * x < y * y ↔ x < y := by
  constructor
  · intro h
    refine Classical.byContradiction fun z => ?_
    have := mul_nonneg (show 0 ≤ x - y by grind) (show 0 ≤ x + y by grind)
    grind
  · intro h
    have := mul_pos (show 0 < y - x by grind) (show 0 < x + y by grind)
    grind
theorem sqrt_eq {x y : Re} (hy : 0 ≤ y) (h : y * y = x) : sqrt x = y := by
  have hx : 0 ≤ x := by
    rw [← h]
    exact sq_nonneg y
  exact sq_eq (sqrt_nonneg x) hy ((sqrt_sq hx).trans h.symm)
theorem rat0 : rat 0 = 0 := rfl
theorem rat1 : rat 1 = 1 := rfl
theorem rat_nonneg {a : Rat} : 0 ≤ rat a ↔ 0 ≤ a := rat_le (a := 0)
theorem rat_pos {a : Rat} : 0 < rat a ↔ 0 < a := rat_lt (a := 0)
theorem rat_npos {a : Rat} : rat a < 0 ↔ a < 0 := rat_lt (b := 0)
theorem sqrt_zero : sqrt 0 = 0 := sqrt_eq (by grind) (by grind)
open Classical in
/-- -1, 0 or 1 -/
noncomputable def sgn (x : Re) : Int := if 0 < x then 1 else if x < 0 then -1 else 0
theorem sgn_pos {x : Re} (h : 0 < x) : sgn x = 1 := if_pos h
theorem sgn_neg {x : Re} (h : x < 0) : sgn x = -1 := by
  unfold sgn
  rw [if_neg (by grind), if_pos h]
theorem sgn_zero : sgn 0 = 0 := by
  unfold sgn
  rw [if_neg (lt_irrefl 0), if_neg (lt_irrefl 0)]
theorem sgn_cases (x : Re) : (0 < x ∧ sgn x = 1) ∨ (x = 0 ∧ sgn x = 0) ∨ (x < 0 ∧ sgn x = -1) := by
  rcases lt_tri 0 x with h | h | h
  · exact .inl ⟨h, sgn_pos h⟩
  · subst h
    exact .inr (.inl ⟨rfl, sgn_zero⟩)
  · exact .inr (.inr ⟨h, sgn_neg h⟩)
theorem sgn_opp (x : Re) : sgn (-x) = -sgn x := by
  rcases sgn_cases x with ⟨h, e⟩ | ⟨h, e⟩ | ⟨h, e⟩
  · rw [e, sgn_neg (by grind)]
  · rw [e, h, show (-0 : Re) = 0 by grind, sgn_zero]
    rfl
  · rw [e, sgn_pos (by grind)]
    rfl
theorem sgn_scale {c x : Re} (h : 0 < c) : sgn (c * x) = sgn x := by
  rcases sgn_cases x with ⟨h1, e⟩ | ⟨h1, e⟩ | ⟨h1, e⟩
  · rw [e, sgn_pos (mul_pos h h1)]
  · rw [h1, show c * 0 = 0 by grind]
  · have := mul_pos h (show 0 < -x by grind)
    rw [e, sgn_neg (by grind)]
theorem sgn_rat (a : Rat) : sgn (rat a) = a.num.sign := by
  rcases lt_tri 0 (rat a) with h | h | h
  · have h1 := rat_pos.mp h
    have n0 : 0 ≤ a.num := Rat.num_nonneg.mpr (Rat.le_of_lt h1)
    have n1 : a.num ≠ 0 := fun z => by
      rw [Rat.num_eq_zero] at z
      grind
    rw [sgn_pos h, Int.sign_eq_one_of_pos (by omega)]
  · have h1 : (0 : Rat) = a := rat_inj h
    rw [← h1, rat0, sgn_zero]
    rfl
  · have h1 := rat_npos.mp h
    have n0 : ¬ 0 ≤ a.num := fun z => by
      have := Rat.num_nonneg.mp z
      grind
    rw [sgn_neg h, Int.sign_eq_neg_one_of_neg (by omega)]
end Re
open Re
/-- a root number's worth -/
noncomputable def rv (p q d : Rat) : Re := rat p + rat q * sqrt (rat d)
/-- q times the root of d is the root of q q d, with q's sign -/
theorem root_part (q : Rat) {d : Rat} (hd : 0 ≤ d) : rat q * sqrt (rat d) = rat (q.num.sign : Rat) * sqrt (rat (q * q * d)) := by
  have hs := sqrt_nonneg (rat d)
  have h2 := sqrt_sq (rat_nonneg.mpr hd)
  rcases sgn_cases (rat q) with ⟨h, e⟩ | ⟨h, e⟩ | ⟨h, e⟩
  · rw [sgn_rat] at e
    rw [e]
    have : sqrt (rat (q * q * d)) = rat q * sqrt (rat d) := sqrt_eq (mul_nonneg (by grind) hs) (by
      rw [rat_mul, rat_mul]
      grind)
    rw [this]
    show _ = (1 : Re) * _
    grind
  · rw [sgn_rat] at e
    rw [e, h]
    show _ = (0 : Re) * _
    grind
  · rw [sgn_rat] at e
    rw [e]
    have : sqrt (rat (q * q * d)) = -rat q * sqrt (rat d) := sqrt_eq (mul_nonneg (by grind) hs) (by
      rw [rat_mul, rat_mul]
      grind)
    rw [this]
    have e1 : rat (((-1 : Int)) : Rat) = -1 := by
      show rat (-1) = -1
      rw [rat_neg]
      rfl
    rw [e1]
    grind
/-! ### root numbers that are apart are well apart -/
theorem int_square {m c σ : Int} (hc : c ≠ 0) (h : m * m = σ * (c * c)) : ∃ k : Int, k * k = σ := by
  have d : c * c ∣ m * m := ⟨σ, by grind⟩
  have d2 : c ∣ m := by
    have : (c.natAbs ^ 2) ∣ (m.natAbs ^ 2) := by
      have := Int.natAbs_dvd_natAbs.mpr d
      rw [Int.natAbs_mul, Int.natAbs_mul] at this
      rw [Nat.pow_two, Nat.pow_two]
      exact this
    exact Int.natAbs_dvd_natAbs.mp ((Nat.pow_dvd_pow_iff (by decide)).mp this)
  obtain ⟨k, rfl⟩ := d2
  refine ⟨k, ?_⟩
  have e : c * c * (k * k) = c * c * σ := by grind
  exact Int.eq_of_mul_eq_mul_left (Int.mul_ne_zero hc hc) e
theorem int_ge_one {x : Int} (h : x ≠ 0) : (1 : Re) ≤ rat (x : Rat) ∨ (1 : Re) ≤ -rat (x : Rat) := by
  by_cases hp : 0 < x
  · left
    have : (1 : Rat) ≤ (x : Rat) := Rat.intCast_le_intCast.mpr (show (1 : Int) ≤ x by omega)
    exact rat_le.mpr this
  · right
    have : (1 : Rat) ≤ ((-x : Int) : Rat) := Rat.intCast_le_intCast.mpr (show (1 : Int) ≤ -x by omega)
    have := rat_le.mpr this
    rw [Rat.intCast_neg, rat_neg] at this
    exact this
theorem prod_le {x y C D : Re} (hx1 : -C ≤ x) (hx2 : x ≤ C) (hy1 : -D ≤ y) (hy2 : y ≤ D) : x * y ≤ C * D ∧ -(C * D) ≤ x * y := by
  have a1 := mul_nonneg (show 0 ≤ C - x by grind) (show 0 ≤ D + y by grind)
  have a2 := mul_nonneg (show 0 ≤ C + x by grind) (show 0 ≤ D - y by grind)
  have a3 := mul_nonneg (show 0 ≤ C - x by grind) (show 0 ≤ D - y by grind)
  have a4 := mul_nonneg (show 0 ≤ C + x by grind) (show 0 ≤ D + y by grind)
  constructor <;> grind
/-- of four numbers whose product is 1 or more in size, three no greater than C: the fourth is not small -/
theorem four_apart {X Y Z W C N : Re} (e : X * Y * Z * W = N) (hN : 1 ≤ N ∨ 1 ≤ -N) (hY : -C ≤ Y ∧ Y ≤ C) (hZ : -C ≤ Z ∧ Z ≤ C) (hW : -C ≤ W ∧ W ≤ C) : 1 ≤ X * (C * C * C) ∨ 1 ≤ -X * (C * C * C) := by
  have h1 := prod_le hY.1 hY.2 hZ.1 hZ.2
  have h2 := prod_le h1.2 h1.1 hW.1 hW.2
  have e2 : X * (Y * Z * W) = N := by grind
  generalize Y * Z * W = P at *
  generalize C * C * C = D at *
  by_cases hx : 0 ≤ X
  · left
    have a1 := mul_nonneg hx (show 0 ≤ D - P by grind)
    have a2 := mul_nonneg hx (show 0 ≤ D + P by grind)
    rcases hN with h | h <;> grind
  · right
    have a1 := mul_nonneg (show 0 ≤ -X by grind) (show 0 ≤ D - P by grind)
    have a2 := mul_nonneg (show 0 ≤ -X by grind) (show 0 ≤ D + P by grind)
    rcases hN with h | h <;> grind
/-- whole numbers α, σ, τ: α and the signed roots together are nought for a plain reason, or well apart from it -/
theorem sep_int {α σ τ : Int} (hσ : 0 ≤ σ) (hτ : 0 ≤ τ) (nσ : σ = 0 ∨ ∀ k : Int, k * k ≠ σ) (nτ : τ = 0 ∨ ∀ k : Int, k * k ≠ τ) {e1 e2 : Re} (he1 : e1 = 1 ∨ e1 = -1) (he2 : e2 = 1 ∨ e2 = -1) {C : Re} (hC : 1 ≤ C)
    (b1 : rat (α : Rat) + sqrt (rat (σ : Rat)) + sqrt (rat (τ : Rat)) ≤ C) (b2 : -rat (α : Rat) + sqrt (rat (σ : Rat)) + sqrt (rat (τ : Rat)) ≤ C) :
    (α = 0 ∧ σ = τ ∧ (e1 = -e2 ∨ σ = 0)) ∨ 1 ≤ (rat (α : Rat) + e1 * sqrt (rat (σ : Rat)) + e2 * sqrt (rat (τ : Rat))) * (C * C * C) ∨ 1 ≤ -(rat (α : Rat) + e1 * sqrt (rat (σ : Rat)) + e2 * sqrt (rat (τ : Rat))) * (C * C * C) := by
  have s0 := sqrt_nonneg (rat (σ : Rat))
  have t0 := sqrt_nonneg (rat (τ : Rat))
  have s2 := sqrt_sq (x := rat (σ : Rat)) (rat_nonneg.mpr (Rat.intCast_nonneg.mpr hσ))
  have t2 := sqrt_sq (x := rat (τ : Rat)) (rat_nonneg.mpr (Rat.intCast_nonneg.mpr hτ))
  by_cases hN : (α * α + σ - τ) * (α * α + σ - τ) = 4 * (α * α) * σ
  · by_cases hα : α = 0
    · subst hα
      have hz : σ - τ = 0 := by
        have : (σ - τ) * (σ - τ) = 0 := by grind
        rcases Int.mul_eq_zero.mp this with h | h <;> exact h
      have hστ : σ = τ := by omega
      subst hστ
      by_cases h0 : σ = 0
      · exact .inl ⟨rfl, rfl, .inr h0⟩
      · rcases he1 with rfl | rfl
        · rcases he2 with rfl | rfl
          · right; left
            have s1 : (1 : Re) ≤ sqrt (rat (σ : Rat)) := by
              refine Classical.byContradiction fun z => ?_
              have h1 : (1 : Re) ≤ rat (σ : Rat) := rat_le.mpr (Rat.intCast_le_intCast.mpr (show (1 : Int) ≤ σ by omega))
              have := mul_nonneg (show 0 ≤ 1 - sqrt (rat (σ : Rat)) by grind) s0
              grind
            have z : rat ((0 : Int) : Rat) = 0 := rfl
            rw [z]
            generalize sqrt (rat (σ : Rat)) = s at *
            have c1 := mul_nonneg (show 0 ≤ C - 1 by grind) (show 0 ≤ C by grind)
            have c2 := mul_nonneg (show 0 ≤ C - 1 by grind) (mul_nonneg (show 0 ≤ C by grind) (show 0 ≤ C by grind))
            have c3 : 1 ≤ C * C * C := by grind
            have c4 := mul_nonneg (show 0 ≤ s - 1 by grind) (show 0 ≤ C * C * C by grind)
            grind
          · exact .inl ⟨rfl, rfl, .inl (by grind)⟩
        · rcases he2 with rfl | rfl
          · exact .inl ⟨rfl, rfl, .inl (by grind)⟩
          · right; right
            have s1 : (1 : Re) ≤ sqrt (rat (σ : Rat)) := by
              refine Classical.byContradiction fun z => ?_
              have h1 : (1 : Re) ≤ rat (σ : Rat) := rat_le.mpr (Rat.intCast_le_intCast.mpr (show (1 : Int) ≤ σ by omega))
              have := mul_nonneg (show 0 ≤ 1 - sqrt (rat (σ : Rat)) by grind) s0
              grind
            have z : rat ((0 : Int) : Rat) = 0 := rfl
            rw [z]
            generalize sqrt (rat (σ : Rat)) = s at *
            have c1 := mul_nonneg (show 0 ≤ C - 1 by grind) (show 0 ≤ C by grind)
            have c2 := mul_nonneg (show 0 ≤ C - 1 by grind) (mul_nonneg (show 0 ≤ C by grind) (show 0 ≤ C by grind))
            have c3 : 1 ≤ C * C * C := by grind
            have c4 := mul_nonneg (show 0 ≤ s - 1 by grind) (show 0 ≤ C * C * C by grind)
            grind
    · exfalso
      obtain ⟨k, hk⟩ := int_square (m := α * α + σ - τ) (c := 2 * α) (σ := σ) (by omega) (by grind)
      rcases nσ with h | h
      · subst h
        have : (α * α - τ) * (α * α - τ) = 0 := by grind
        have hz : α * α - τ = 0 := by
          rcases Int.mul_eq_zero.mp this with h | h <;> exact h
        rcases nτ with h | h
        · have : α * α = 0 := by omega
          rcases Int.mul_eq_zero.mp this with h | h <;> exact hα h
        · exact h α (by omega)
      · exact h k hk
  · right
    have n1 := int_ge_one (x := (α * α + σ - τ) * (α * α + σ - τ) - 4 * (α * α) * σ) (by omega)
    have eN : rat (((α * α + σ - τ) * (α * α + σ - τ) - 4 * (α * α) * σ : Int) : Rat) = (rat (α : Rat) * rat (α : Rat) + rat (σ : Rat) - rat (τ : Rat)) * (rat (α : Rat) * rat (α : Rat) + rat (σ : Rat) - rat (τ : Rat)) - 4 * (rat (α : Rat) * rat (α : Rat)) * rat (σ : Rat) := by
      have four : rat ((4 : Int) : Rat) = 4 := rfl
      simp only [Rat.intCast_sub, Rat.intCast_mul, Rat.intCast_add, rat_sub, rat_mul, rat_add, four]
    rw [eN] at n1
    generalize rat (α : Rat) = a at *
    generalize sqrt (rat (σ : Rat)) = s at *
    generalize sqrt (rat (τ : Rat)) = t at *
    rw [← s2, ← t2] at n1
    rcases he1 with rfl | rfl
    · rcases he2 with rfl | rfl
      · exact four_apart (Y := a + s - t) (Z := a - s + t) (W := a - s - t) (by grind) n1 (by grind) (by grind) (by grind)
      · exact four_apart (Y := a + s + t) (Z := a - s + t) (W := a - s - t) (by grind) n1 (by grind) (by grind) (by grind)
    · rcases he2 with rfl | rfl
      · exact four_apart (Y := a + s + t) (Z := a + s - t) (W := a - s - t) (by grind) n1 (by grind) (by grind) (by grind)
      · exact four_apart (Y := a + s + t) (Z := a + s - t) (W := a - s + t) (by grind) n1 (by grind) (by grind) (by grind)
/-! ### of fractions -/
theorem rat_num (p : Rat) : p * (p.den : Rat) = (p.num : Rat) := by
  have e := Rat.num_divInt_den p
  rw [Rat.divInt_eq_div] at e
  have d : ((p.den : Int) : Rat) = (p.den : Rat) := rfl
  have z : (0 : Rat) < (p.den : Rat) := Rat.natCast_lt_natCast.mpr p.den_pos
  rw [d] at e
  generalize (p.den : Rat) = D at *
  generalize (p.num : Rat) = M at *
  rw [← e]
  grind
theorem den_one (p : Rat) : (1 : Rat) ≤ (p.den : Rat) := Rat.natCast_le_natCast.mpr p.den_pos
theorem bt_rat {n : Nat} {x : Int} (h : Bt n x) : -(2 ^ n : Nat) < (x : Rat) ∧ (x : Rat) < ((2 ^ n : Nat) : Rat) := by
  unfold Bt at h
  constructor
  · have h1 : -((2 ^ n : Nat) : Int) < x := by omega
    have := Rat.intCast_lt_intCast.mpr h1
    rw [Rat.intCast_neg] at this
    exact this
  · have h1 : x < ((2 ^ n : Nat) : Int) := by omega
    exact Rat.intCast_lt_intCast.mpr h1
theorem rb_rat {n : Nat} {p : Rat} (h : Rb n p) : -((2 ^ n : Nat) : Rat) < p ∧ p < ((2 ^ n : Nat) : Rat) ∧ (p.den : Rat) < ((2 ^ n : Nat) : Rat) := by
  have h1 := bt_rat h.1
  have h2 := (bt_rat h.2).2
  have e := rat_num p
  have d1 := den_one p
  have h3 : (p.den : Rat) < ((2 ^ n : Nat) : Rat) := h2
  generalize (p.den : Rat) = D at *
  generalize (p.num : Rat) = M at *
  generalize ((2 ^ n : Nat) : Rat) = T at *
  refine ⟨?_, ?_, h3⟩
  · refine Decidable.byContradiction fun z => ?_
    have := Rat.mul_nonneg (show 0 ≤ -T - p by grind) (show 0 ≤ D by grind)
    have := Rat.mul_nonneg (show 0 ≤ T by grind) (show 0 ≤ D - 1 by grind)
    grind
  · refine Decidable.byContradiction fun z => ?_
    have := Rat.mul_nonneg (show 0 ≤ p - T by grind) (show 0 ≤ D by grind)
    have := Rat.mul_nonneg (show 0 ≤ T by grind) (show 0 ≤ D - 1 by grind)
    grind
/-- a fraction's root over the common ground M -/
theorem over_ground {z : Rat} {M σ : Int} (hM : 0 < M) (hz : 0 ≤ z) (e : (σ : Rat) = (M : Rat) * (M : Rat) * z) : sqrt (rat (σ : Rat)) = rat (M : Rat) * sqrt (rat z) := by
  have h0 : (0 : Rat) < (M : Rat) := Rat.intCast_lt_intCast.mpr hM
  refine sqrt_eq (mul_nonneg (rat_nonneg.mpr (Rat.le_of_lt h0)) (sqrt_nonneg _)) ?_
  have := sqrt_sq (rat_nonneg.mpr hz)
  rw [e, rat_mul, rat_mul]
  grind
theorem ground_plain {z : Rat} {M σ : Int} (hM : 0 < M) (e : (σ : Rat) = (M : Rat) * (M : Rat) * z) (h : z = 0 ∨ ∀ r : Rat, r * r ≠ z) : σ = 0 ∨ ∀ k : Int, k * k ≠ σ := by
  have h0 : (0 : Rat) < (M : Rat) := Rat.intCast_lt_intCast.mpr hM
  rcases h with h | h
  · left
    rw [h] at e
    have : (σ : Rat) = ((0 : Int) : Rat) := by
      rw [e]
      show _ = (0 : Rat)
      grind
    exact Rat.intCast_inj.mp this
  · right
    intro k hk
    refine h ((k : Rat) / (M : Rat)) ?_
    have : (σ : Rat) = (k : Rat) * (k : Rat) := by rw [← hk, Rat.intCast_mul]
    generalize (M : Rat) = m at *
    generalize (k : Rat) = c at *
    rw [this] at e
    have e2 : c / m * (c / m) = c * c / (m * m) := by grind
    rw [e2, e]
    grind
theorem sep_rat {n : Nat} {p1 p2 z1 z2 : Rat} (b1 : Rb n p1) (b2 : Rb n p2) (c1 : Rb n z1) (c2 : Rb n z2) (h1 : 0 ≤ z1) (h2 : 0 ≤ z2) (n1 : z1 = 0 ∨ ∀ r : Rat, r * r ≠ z1) (n2 : z2 = 0 ∨ ∀ r : Rat, r * r ≠ z2)
    {e1 e2 : Re} (he1 : e1 = 1 ∨ e1 = -1) (he2 : e2 = 1 ∨ e2 = -1) {T : Re} (hT : T = rat ((2 ^ n : Nat) : Rat)) :
    (p1 = p2 ∧ z1 = z2 ∧ (e1 = e2 ∨ z1 = 0)) ∨ 1 ≤ ((rat p1 + e1 * sqrt (rat z1)) - (rat p2 + e2 * sqrt (rat z2))) * (64 * T ^ 19) ∨ 1 ≤ -((rat p1 + e1 * sqrt (rat z1)) - (rat p2 + e2 * sqrt (rat z2))) * (64 * T ^ 19) := by
  obtain ⟨x1, x2, x3⟩ := rb_rat b1
  obtain ⟨y1, y2, y3⟩ := rb_rat b2
  obtain ⟨u1, u2, u3⟩ := rb_rat c1
  obtain ⟨v1, v2, v3⟩ := rb_rat c2
  have T1 : (1 : Rat) ≤ ((2 ^ n : Nat) : Rat) := Rat.natCast_le_natCast.mpr (Nat.one_le_two_pow)
  generalize hP : ((2 ^ n : Nat) : Rat) = P at *
  let M : Int := (p1.den : Int) * (p2.den : Int) * (z1.den : Int) * (z2.den : Int)
  have d1 := p1.den_pos
  have d2 := p2.den_pos
  have d3 := z1.den_pos
  have d4 := z2.den_pos
  have hM : 0 < M := Int.mul_pos (Int.mul_pos (Int.mul_pos (by omega) (by omega)) (by omega)) (by omega)
  have eM : (M : Rat) = (p1.den : Rat) * (p2.den : Rat) * (z1.den : Rat) * (z2.den : Rat) := by
    show (((p1.den : Int) * (p2.den : Int) * (z1.den : Int) * (z2.den : Int) : Int) : Rat) = _
    rw [Rat.intCast_mul, Rat.intCast_mul, Rat.intCast_mul]
    rfl
  let α : Int := p1.num * ((p2.den : Int) * (z1.den : Int) * (z2.den : Int)) - p2.num * ((p1.den : Int) * (z1.den : Int) * (z2.den : Int))
  let σ : Int := z1.num * ((z1.den : Int) * ((p1.den : Int) * (p2.den : Int) * (z2.den : Int)) * ((p1.den : Int) * (p2.den : Int) * (z2.den : Int)))
  let τ : Int := z2.num * ((z2.den : Int) * ((p1.den : Int) * (p2.den : Int) * (z1.den : Int)) * ((p1.den : Int) * (p2.den : Int) * (z1.den : Int)))
  have g1 := rat_num p1
  have g2 := rat_num p2
  have g3 := rat_num z1
  have g4 := rat_num z2
  have eα : (α : Rat) = (M : Rat) * (p1 - p2) := by
    rw [eM]
    show ((p1.num * ((p2.den : Int) * (z1.den : Int) * (z2.den : Int)) - p2.num * ((p1.den : Int) * (z1.den : Int) * (z2.den : Int)) : Int) : Rat) = _
    simp only [Rat.intCast_sub, Rat.intCast_mul]
    rw [← g1, ← g2]
    show p1 * (p1.den : Rat) * ((p2.den : Rat) * (z1.den : Rat) * (z2.den : Rat)) - p2 * (p2.den : Rat) * ((p1.den : Rat) * (z1.den : Rat) * (z2.den : Rat)) = _
    grind
  have eσ : (σ : Rat) = (M : Rat) * (M : Rat) * z1 := by
    rw [eM]
    show ((z1.num * ((z1.den : Int) * ((p1.den : Int) * (p2.den : Int) * (z2.den : Int)) * ((p1.den : Int) * (p2.den : Int) * (z2.den : Int))) : Int) : Rat) = _
    simp only [Rat.intCast_mul]
    rw [← g3]
    show z1 * (z1.den : Rat) * ((z1.den : Rat) * ((p1.den : Rat) * (p2.den : Rat) * (z2.den : Rat)) * ((p1.den : Rat) * (p2.den : Rat) * (z2.den : Rat))) = _
    grind
  have eτ : (τ : Rat) = (M : Rat) * (M : Rat) * z2 := by
    rw [eM]
    show ((z2.num * ((z2.den : Int) * ((p1.den : Int) * (p2.den : Int) * (z1.den : Int)) * ((p1.den : Int) * (p2.den : Int) * (z1.den : Int))) : Int) : Rat) = _
    simp only [Rat.intCast_mul]
    rw [← g4]
    show z2 * (z2.den : Rat) * ((z2.den : Rat) * ((p1.den : Rat) * (p2.den : Rat) * (z1.den : Rat)) * ((p1.den : Rat) * (p2.den : Rat) * (z1.den : Rat))) = _
    grind
  have hM0 : (0 : Rat) < (M : Rat) := Rat.intCast_lt_intCast.mpr hM
  have nn : ∀ {w : Rat} {s : Int}, 0 ≤ w → (s : Rat) = (M : Rat) * (M : Rat) * w → 0 ≤ s := fun {w s} hw e => by
    have : (0 : Rat) ≤ (s : Rat) := by
      rw [e]
      exact Rat.mul_nonneg (Rat.le_of_lt (Rat.mul_pos hM0 hM0)) hw
    exact Rat.intCast_nonneg.mp this
  have rσ := over_ground hM h1 eσ
  have rτ := over_ground hM h2 eτ
  -- M is below P ^ 4
  have MP : (M : Rat) ≤ P * P * P * P := by
    rw [eM]
    have o1 := den_one p1
    have o2 := den_one p2
    have o3 := den_one z1
    have o4 := den_one z2
    generalize (p1.den : Rat) = a at *
    generalize (p2.den : Rat) = b at *
    generalize (z1.den : Rat) = c at *
    generalize (z2.den : Rat) = d at *
    have m1 : a * b ≤ P * P := by
      have := Rat.mul_nonneg (show 0 ≤ P - a by grind) (show 0 ≤ b by grind)
      have := Rat.mul_nonneg (show 0 ≤ P by grind) (show 0 ≤ P - b by grind)
      grind
    have m1' : 0 ≤ a * b := Rat.mul_nonneg (by grind) (by grind)
    have m2 : a * b * c ≤ P * P * P := by
      have := Rat.mul_nonneg (show 0 ≤ P * P - a * b by grind) (show 0 ≤ c by grind)
      have := Rat.mul_nonneg (show 0 ≤ P * P by grind) (show 0 ≤ P - c by grind)
      grind
    have m2' : 0 ≤ a * b * c := Rat.mul_nonneg m1' (by grind)
    have := Rat.mul_nonneg (show 0 ≤ P * P * P - a * b * c by grind) (show 0 ≤ d by grind)
    have := Rat.mul_nonneg (show 0 ≤ P * P * P by grind) (show 0 ≤ P - d by grind)
    grind
  have sq1 : sqrt (rat z1) ≤ rat P := by
    refine Classical.byContradiction fun zz => ?_
    have q := (sq_lt (rat_nonneg.mpr (show 0 ≤ P by grind)) (sqrt_nonneg (rat z1))).mpr (by grind)
    rw [sqrt_sq (rat_nonneg.mpr h1), ← rat_mul, rat_lt] at q
    have := Rat.mul_nonneg (show 0 ≤ P - 1 by grind) (show 0 ≤ P by grind)
    grind
  have sq2 : sqrt (rat z2) ≤ rat P := by
    refine Classical.byContradiction fun zz => ?_
    have q := (sq_lt (rat_nonneg.mpr (show 0 ≤ P by grind)) (sqrt_nonneg (rat z2))).mpr (by grind)
    rw [sqrt_sq (rat_nonneg.mpr h2), ← rat_mul, rat_lt] at q
    have := Rat.mul_nonneg (show 0 ≤ P - 1 by grind) (show 0 ≤ P by grind)
    grind
  have r0 : 0 < rat (M : Rat) := rat_pos.mpr hM0
  have r1 : rat (M : Rat) ≤ T * T * T * T := by
    rw [hT, ← rat_mul, ← rat_mul, ← rat_mul]
    exact rat_le.mpr MP
  have r2 : rat p1 - rat p2 ≤ 2 * T := by
    rw [hT]
    have := rat_lt.mpr x2
    have := rat_lt.mpr y1
    rw [rat_neg] at this
    grind
  have r3 : rat p2 - rat p1 ≤ 2 * T := by
    rw [hT]
    have := rat_lt.mpr y2
    have := rat_lt.mpr x1
    rw [rat_neg] at this
    grind
  have r4 : 1 ≤ T := by
    rw [hT]
    exact rat_le.mpr T1
  have tt1 : 1 ≤ T * T := by
    have := mul_nonneg (show 0 ≤ T - 1 by grind) (show 0 ≤ T by grind)
    grind
  have tt2 : 1 ≤ T * T * T := by
    have := mul_nonneg (show 0 ≤ T * T - 1 by grind) (show 0 ≤ T by grind)
    grind
  have tt3 : 1 ≤ T * T * T * T := by
    have := mul_nonneg (show 0 ≤ T * T * T - 1 by grind) (show 0 ≤ T by grind)
    grind
  have tt4 : 1 ≤ T * T * T * T * T := by
    have := mul_nonneg (show 0 ≤ T * T * T * T - 1 by grind) (show 0 ≤ T by grind)
    grind
  rw [← hT] at sq1 sq2
  have sn1 := sqrt_nonneg (rat z1)
  have sn2 := sqrt_nonneg (rat z2)
  have eα2 : rat (α : Rat) = rat (M : Rat) * (rat p1 - rat p2) := by rw [eα, rat_mul, rat_sub]
  have bound : ∀ w : Re, w ≤ 4 * T → rat (M : Rat) * w ≤ 4 * (T * T * T * T * T) := fun w hw => by
    have k1 := mul_nonneg (Std.le_of_lt r0) (show 0 ≤ 4 * T - w by grind)
    have k2 := mul_nonneg (show 0 ≤ T * T * T * T - rat (M : Rat) by grind) (show 0 ≤ 4 * T by grind)
    grind
  have B1 := bound (rat p1 - rat p2 + sqrt (rat z1) + sqrt (rat z2)) (by grind)
  have B2 := bound (rat p2 - rat p1 + sqrt (rat z1) + sqrt (rat z2)) (by grind)
  have S := sep_int (nn h1 eσ) (nn h2 eτ) (ground_plain hM eσ n1) (ground_plain hM eτ n2) he1 (e2 := -e2) (by grind) (C := 4 * (T * T * T * T * T)) (by grind)
    (by rw [rσ, rτ, eα2]; grind) (by rw [rσ, rτ, eα2]; grind)
  rw [rσ, rτ, eα2] at S
  rcases S with ⟨a0, st, ee⟩ | S | S
  · left
    have hp : p1 = p2 := by
      rw [a0] at eα
      have : (0 : Rat) = (M : Rat) * (p1 - p2) := eα
      have : p1 - p2 = 0 := by
        rcases Rat.mul_eq_zero.mp this.symm with h | h
        · grind
        · exact h
      grind
    have hz : z1 = z2 := by
      rw [st, eτ] at eσ
      generalize (M : Rat) = m at *
      have : (m * m) * (z1 - z2) = 0 := by grind
      rcases Rat.mul_eq_zero.mp this with h | h
      · have := Rat.mul_pos hM0 hM0
        grind
      · grind
    refine ⟨hp, hz, ?_⟩
    rcases ee with h | h
    · exact .inl (by grind)
    · right
      rw [h] at eσ
      have : (0 : Rat) = (M : Rat) * (M : Rat) * z1 := eσ
      rcases Rat.mul_eq_zero.mp this.symm with h | h
      · have := Rat.mul_pos hM0 hM0
        grind
      · exact h
  · right; left
    generalize hx : (rat p1 + e1 * sqrt (rat z1)) - (rat p2 + e2 * sqrt (rat z2)) = x at *
    have e3 : rat (M : Rat) * (rat p1 - rat p2) + e1 * (rat (M : Rat) * sqrt (rat z1)) + -e2 * (rat (M : Rat) * sqrt (rat z2)) = rat (M : Rat) * x := by
      rw [← hx]
      grind
    rw [e3] at S
    have eC : 4 * (T * T * T * T * T) * (4 * (T * T * T * T * T)) * (4 * (T * T * T * T * T)) = 64 * T ^ 15 := by grind
    rw [eC] at S
    have c0 : 0 ≤ 64 * T ^ 15 := by
      rw [← eC]
      exact mul_nonneg (mul_nonneg (by grind) (by grind)) (by grind)
    have xp : 0 ≤ x := by
      refine Classical.byContradiction fun zz => ?_
      have := mul_nonneg (Std.le_of_lt r0) (mul_nonneg (show 0 ≤ -x by grind) c0)
      grind
    have := mul_nonneg (show 0 ≤ T * T * T * T - rat (M : Rat) by grind) (mul_nonneg xp c0)
    have e4 : x * (64 * T ^ 19) = T * T * T * T * (x * (64 * T ^ 15)) := by grind
    rw [e4]
    grind
  · right; right
    generalize hx : (rat p1 + e1 * sqrt (rat z1)) - (rat p2 + e2 * sqrt (rat z2)) = x at *
    have e3 : rat (M : Rat) * (rat p1 - rat p2) + e1 * (rat (M : Rat) * sqrt (rat z1)) + -e2 * (rat (M : Rat) * sqrt (rat z2)) = rat (M : Rat) * x := by
      rw [← hx]
      grind
    rw [e3] at S
    have eC : 4 * (T * T * T * T * T) * (4 * (T * T * T * T * T)) * (4 * (T * T * T * T * T)) = 64 * T ^ 15 := by grind
    rw [eC] at S
    have c0 : 0 ≤ 64 * T ^ 15 := by
      rw [← eC]
      exact mul_nonneg (mul_nonneg (by grind) (by grind)) (by grind)
    have xp : 0 ≤ -x := by
      refine Classical.byContradiction fun zz => ?_
      have := mul_nonneg (Std.le_of_lt r0) (mul_nonneg (show 0 ≤ x by grind) c0)
      grind
    have := mul_nonneg (show 0 ≤ T * T * T * T - rat (M : Rat) by grind) (mul_nonneg xp c0)
    have e4 : -x * (64 * T ^ 19) = T * T * T * T * (-x * (64 * T ^ 15)) := by grind
    rw [e4]
    grind

/-! ### whole roots -/
theorem fdiv_spec (a : Int) {b : Int} (hb : 0 < b) : a.fdiv b * b ≤ a ∧ a < (a.fdiv b + 1) * b := by
  have h1 := Int.fmod_nonneg_of_pos a hb
  have h2 := Int.fmod_lt_of_pos a hb
  have h3 := Int.fmod_def a b
  constructor <;> grind
theorem newton_step {n x : Int} (hn : 0 ≤ n) (hx : 0 < x) (h : n < x * x) : n < ((x + n.fdiv x).fdiv 2 + 1) * ((x + n.fdiv x).fdiv 2 + 1) ∧ (x + n.fdiv x).fdiv 2 < x ∧ 0 ≤ (x + n.fdiv x).fdiv 2 := by
  have f1 := fdiv_spec n hx
  have f2 := fdiv_spec (x + n.fdiv x) (b := 2) (by decide)
  generalize n.fdiv x = a at *
  generalize (x + a).fdiv 2 = y at *
  have a0 : 0 ≤ a := by
    refine Decidable.byContradiction fun z => ?_
    have := Int.mul_nonneg (show 0 ≤ -1 - a by omega) (show 0 ≤ x by omega)
    grind
  have ax : a < x := by
    refine Decidable.byContradiction fun z => ?_
    have := Int.mul_nonneg (show 0 ≤ a - x by omega) (show 0 ≤ x by omega)
    grind
  refine ⟨?_, by omega, by omega⟩
  have k1 : x + a + 1 ≤ 2 * (y + 1) := by omega
  have k2 := Int.mul_nonneg (show 0 ≤ 2 * (y + 1) - (x + a + 1) by omega) (show 0 ≤ 2 * (y + 1) + (x + a + 1) by omega)
  have k3 : 0 ≤ (x - (a + 1)) * (x - (a + 1)) := by
    by_cases hq : 0 ≤ x - (a + 1)
    · exact Int.mul_nonneg hq hq
    · have := Int.mul_nonneg (show 0 ≤ -(x - (a + 1)) by omega) (show 0 ≤ -(x - (a + 1)) by omega)
      grind
  grind
/-- the root of a square of fractions -/
theorem square_parts (r : Rat) : (r * r).num = r.num * r.num ∧ (r * r).den = r.den * r.den := by
  have c : (r.num * r.num).natAbs.Coprime (r.den * r.den) := by
    rw [Int.natAbs_mul]
    exact Nat.Coprime.mul_left (Nat.Coprime.mul_right r.reduced r.reduced) (Nat.Coprime.mul_right r.reduced r.reduced)
  have nz : r.den * r.den ≠ 0 := Nat.mul_ne_zero r.den_nz r.den_nz
  have e : (⟨r.num * r.num, r.den * r.den, nz, c⟩ : Rat) = r * r := by
    rw [Rat.mk_eq_divInt, ← rat_prod]
    congr 1
  rw [← e]
  exact ⟨rfl, rfl⟩
theorem root_of_parts {z : Rat} {a b : Int} (hb : 0 < b) (h1 : a * a = z.num) (h2 : b * b = (z.den : Int)) : Rat.divInt a b * Rat.divInt a b = z := by
  rw [Rat.divInt_mul_divInt, h1, h2, Rat.num_divInt_den]
theorem no_root {z : Rat} {a b : Int} (ha : 0 ≤ a) (hb : 0 ≤ b) (a1 : a * a ≤ z.num) (a2 : z.num < (a + 1) * (a + 1)) (b1 : b * b ≤ (z.den : Int)) (b2 : (z.den : Int) < (b + 1) * (b + 1)) (h : a * a ≠ z.num ∨ b * b ≠ (z.den : Int)) : ∀ r : Rat, r * r ≠ z := by
  rintro r rfl
  obtain ⟨p1, p2⟩ := square_parts r
  have only : ∀ {k x : Int}, 0 ≤ k → k * k ≤ x * x → x * x < (k + 1) * (k + 1) → k * k = x * x := fun {k x} hk l1 l2 => by
    have key : ∀ y : Int, 0 ≤ y → k * k ≤ y * y → y * y < (k + 1) * (k + 1) → k = y := fun y hy m1 m2 => by
      rcases Int.lt_trichotomy k y with q | q | q
      · have := Int.mul_nonneg (show 0 ≤ y - (k + 1) by omega) (show 0 ≤ y + (k + 1) by omega)
        grind
      · exact q
      · have := Int.mul_nonneg (show 0 ≤ k - (y + 1) by omega) (show 0 ≤ k + (y + 1) by omega)
        grind
    by_cases hx : 0 ≤ x
    · rw [key x hx l1 l2]
    · have := key (-x) (by omega) (by grind) (by grind)
      grind
  rw [p1] at a1 a2 h
  rw [p2] at b1 b2 h
  have c : (((r.den * r.den : Nat)) : Int) = (r.den : Int) * (r.den : Int) := Int.natCast_mul _ _
  rw [c] at b1 b2 h
  rcases h with h | h
  · exact h (only ha a1 a2)
  · exact h (only hb b1 b2)
/-- scale times a fraction, from below -/
theorem low_spec (p : Rat) {s : Int} (hs : 0 < s) : rat (((p.num * s).fdiv (p.den : Int) : Int) : Rat) ≤ rat p * rat (s : Rat) ∧ rat p * rat (s : Rat) < rat (((p.num * s).fdiv (p.den : Int) : Int) : Rat) + 1 := by
  have d := p.den_pos
  obtain ⟨h1, h2⟩ := fdiv_spec (p.num * s) (b := (p.den : Int)) (by omega)
  generalize (p.num * s).fdiv (p.den : Int) = k at *
  have e := rat_num p
  have h1' := Rat.intCast_le_intCast.mpr h1
  have h2' := Rat.intCast_lt_intCast.mpr h2
  rw [Rat.intCast_mul, Rat.intCast_mul, ← e] at h1' h2'
  rw [Rat.intCast_add] at h2'
  have dd : (((p.den : Nat) : Int) : Rat) = (p.den : Rat) := rfl
  have o : ((1 : Int) : Rat) = 1 := rfl
  rw [dd] at h1' h2'
  rw [o] at h2'
  have z : (0 : Rat) < (p.den : Rat) := Rat.natCast_lt_natCast.mpr d
  generalize (p.den : Rat) = D at *
  generalize (s : Rat) = S at *
  have r1 : rat 1 = 1 := rfl
  rw [← rat_mul, rat_le, ← r1, ← rat_add, rat_lt]
  constructor
  · refine Decidable.byContradiction fun q => ?_
    have := Rat.mul_pos (show 0 < (k : Rat) - p * S by grind) z
    grind
  · refine Decidable.byContradiction fun q => ?_
    have := Rat.mul_nonneg (show 0 ≤ p * S - ((k : Rat) + 1) by grind) (Rat.le_of_lt z)
    grind
/-- scale times a root, from below -/
theorem root_spec {z : Rat} (hz : 0 ≤ z) {s k : Int} (hs : 0 < s) (hk : 0 ≤ k) (h1 : k * k ≤ (z.num * s * s).fdiv (z.den : Int)) (h2 : (z.num * s * s).fdiv (z.den : Int) < (k + 1) * (k + 1)) :
    rat (k : Rat) ≤ sqrt (rat z) * rat (s : Rat) ∧ sqrt (rat z) * rat (s : Rat) < rat (k : Rat) + 1 := by
  have l := low_spec z (s := s * s) (Int.mul_pos hs hs)
  have ea : z.num * s * s = z.num * (s * s) := by grind
  rw [ea] at h1 h2
  generalize (z.num * (s * s)).fdiv (z.den : Int) = m at *
  have h1' := rat_le.mpr (Rat.intCast_le_intCast.mpr h1)
  have h2' := rat_le.mpr (Rat.intCast_le_intCast.mpr (show m + 1 ≤ (k + 1) * (k + 1) by omega))
  rw [Rat.intCast_mul, rat_mul] at h1'
  rw [Rat.intCast_mul, rat_mul, Rat.intCast_add, rat_add, Rat.intCast_add, rat_add] at h2'
  rw [Rat.intCast_mul, rat_mul] at l
  have o : rat ((1 : Int) : Rat) = 1 := rfl
  rw [o] at h2'
  have k0 : 0 ≤ rat (k : Rat) := rat_nonneg.mpr (Rat.intCast_nonneg.mpr hk)
  have s0 : 0 < rat (s : Rat) := rat_pos.mpr (Rat.intCast_lt_intCast.mpr hs)
  have q0 := sqrt_nonneg (rat z)
  have q2 := sqrt_sq (rat_nonneg.mpr hz)
  have qs := mul_nonneg q0 (Std.le_of_lt s0)
  have e2 : sqrt (rat z) * rat (s : Rat) * (sqrt (rat z) * rat (s : Rat)) = rat z * (rat (s : Rat) * rat (s : Rat)) := by
    rw [← q2]
    grind
  generalize sqrt (rat z) * rat (s : Rat) = y at *
  generalize rat (k : Rat) = c at *
  constructor
  · refine Classical.byContradiction fun q => ?_
    have := (sq_lt qs k0).mpr (by grind)
    grind
  · exact (sq_lt qs (by grind)).mp (by grind)

/-! ### root numbers as they stand -/
open Re
/-- a root number as it stands -/
def RnV (H : Hp) (v : V) (p q d : Rat) : Prop := ∃ a x y z, v = .ref a ∧ H a = some (.tup [x, y, z]) ∧ FrV H x p ∧ FrV H y q ∧ FrV H z d
theorem RnV.same {H H' : Hp} {v : V} {p q d : Rat} (e : Same H H') (h : RnV H v p q d) : RnV H' v p q d := by
  obtain ⟨a, x, y, z, rfl, h, h1, h2, h3⟩ := h
  exact ⟨a, x, y, z, rfl, e _ _ h, h1.same e, h2.same e, h3.same e⟩
theorem sq_nn (q : Rat) : 0 ≤ q * q := by
  by_cases h : 0 ≤ q
  · exact Rat.mul_nonneg h h
  · have := Rat.mul_nonneg (show 0 ≤ -q by grind) (show 0 ≤ -q by grind)
    grind
theorem div_nonneg {a b : Int} (ha : 0 ≤ a) (hb : 0 < b) : 0 ≤ Rat.divInt a b := by
  refine Rat.num_nonneg.mp ?_
  rw [← sg_num (by omega)]
  have sp : 0 < sg a b := by
    have := (sg_ne (a := a) (b := b) (by omega)).1
    unfold sg at *
    rw [if_neg (by omega)] at *
    omega
  rw [Int.fdiv_eq_ediv_of_nonneg _ (by omega)]
  exact Int.ediv_nonneg ha (by omega)
theorem div_pos' {a b : Int} (ha : 0 < a) (hb : 0 < b) : 0 < Rat.divInt a b := by
  have h1 := div_nonneg (a := a) (b := b) (by omega) hb
  have h2 : Rat.divInt a b ≠ 0 := fun z => by
    have := (Rat.divInt_eq_divInt_iff (d₁ := b) (d₂ := 1) (n₁ := a) (n₂ := 0) (by omega) (by decide)).mp (by rw [z]; rfl)
    omega
  grind
/-- compare's promise -/
def sp_cmp : Sp := fun vs H Q _ => ∃ v1 v2 p1 q1 d1 p2 q2 d2, vs = [v1, v2] ∧ RnV H v1 p1 q1 d1 ∧ RnV H v2 p2 q2 d2 ∧ (0 ≤ d1 ∧ Rb 300 p1 ∧ Rb 300 q1 ∧ Rb 300 d1) ∧ (0 ≤ d2 ∧ Rb 300 p2 ∧ Rb 300 q2 ∧ Rb 300 d2) ∧
  ∀ H', Same H H' → Q (.int (sgn (rv p1 q1 d1 - rv p2 q2 d2))) H'
theorem RnV.imp {H H' : Hp} {v : V} {p q d : Rat} (e : ∀ a xs, H a = some (.tup xs) → H' a = some (.tup xs)) (h : RnV H v p q d) : RnV H' v p q d := by
  obtain ⟨a, x, y, z, rfl, h, ⟨a1, rfl, h1⟩, ⟨a2, rfl, h2⟩, ⟨a3, rfl, h3⟩⟩ := h
  exact ⟨a, _, _, _, rfl, e _ _ h, ⟨a1, rfl, e _ _ h1⟩, ⟨a2, rfl, e _ _ h2⟩, ⟨a3, rfl, e _ _ h3⟩⟩
theorem Keep.rn {K : PySem.W.Frag} {H H' : Hp} {d l s : Addr} {ns : List Int} {c : Nat} {v : V} {p q e : Rat} (k : Keep d l H H') (h : Dk K H d l s ns c) (f : RnV H v p q e) : RnV H' v p q e := f.imp fun _ _ h' => k.tup h h'
theorem tup_lst {H : Hp} {D : Addr} {acc acc' : List V} (hD : H D = some (.lst acc)) : ∀ a xs, H a = some (.tup xs) → upd H D (.lst acc') a = some (.tup xs) := fun a xs h => by
  rw [upd_ne (ne_of h hD fun z => by cases z)]
  exact h
/-- a row of root numbers whose parts are not great -/
def RnB (n m k : Nat) (p q d : Rat) : Prop := 0 ≤ d ∧ Rb n p ∧ Rb m q ∧ Rb k d
def ARn (n m k : Nat) (H : Hp) (xs : List V) : Prop := ∀ v ∈ xs, ∃ p q d, RnV H v p q d ∧ RnB n m k p q d
theorem ARn.imp {n m k : Nat} {H H' : Hp} {xs : List V} (e : ∀ a ys, H a = some (.tup ys) → H' a = some (.tup ys)) (h : ARn n m k H xs) : ARn n m k H' xs := fun v hv => by
  obtain ⟨p, q, d, r, b⟩ := h v hv
  exact ⟨p, q, d, r.imp e, b⟩
theorem ARn.snoc {n m k : Nat} {H : Hp} {xs : List V} {v : V} {p q d : Rat} (h : ARn n m k H xs) (r : RnV H v p q d) (b : RnB n m k p q d) : ARn n m k H (xs ++ [v]) := fun u hu => by
  rcases List.mem_append.mp hu with hu | hu
  · exact h u hu
  · rw [List.mem_singleton.mp hu]
    exact ⟨p, q, d, r, b⟩
theorem frv_int {H : Hp} {p : Addr} {n : Int} : FrV (upd H p (.tup [.int n, .int 1])) (.ref p) (n : Rat) := frv_new (Rat.num_intCast n).symm (by rw [Rat.den_intCast]; rfl)
theorem rb_int {m : Nat} {n : Int} (h : Bt m n) (hm : 1 ≤ m) : Rb m (n : Rat) := ⟨by rw [Rat.num_intCast]; exact h, by rw [Rat.den_intCast]; exact Bt.mono (m := 1) (bt_lit (by decide)) hm⟩

namespace Re
/-! ### signs of sums by signs and squares -/
theorem sgn_eq_pos {x : Re} : sgn x = 1 ↔ 0 < x := by
  rcases sgn_cases x with ⟨h, e⟩ | ⟨h, e⟩ | ⟨h, e⟩ <;> rw [e] <;> constructor <;> intro k <;> first | exact h | rfl | exact absurd k (by decide) | (exfalso; grind)
theorem sgn_eq_neg {x : Re} : sgn x = -1 ↔ x < 0 := by
  rcases sgn_cases x with ⟨h, e⟩ | ⟨h, e⟩ | ⟨h, e⟩ <;> rw [e] <;> constructor <;> intro k <;> first | exact h | rfl | exact absurd k (by decide) | (exfalso; grind)
theorem sgn_eq_zero {x : Re} : sgn x = 0 ↔ x = 0 := by
  rcases sgn_cases x with ⟨h, e⟩ | ⟨h, e⟩ | ⟨h, e⟩ <;> rw [e] <;> constructor <;> intro k <;> first | exact h | rfl | exact absurd k (by decide) | (exfalso; grind)
theorem sgn_mul (x y : Re) : sgn (x * y) = sgn x * sgn y := by
  rcases sgn_cases x with ⟨h, e⟩ | ⟨h, e⟩ | ⟨h, e⟩
  · rw [sgn_scale h, e, Int.one_mul]
  · rw [h, sgn_zero, show (0 : Re) * y = 0 by grind, sgn_zero, Int.zero_mul]
  · have : sgn (-x * y) = sgn y := sgn_scale (by grind)
    rw [show -x * y = -(x * y) by grind, sgn_opp] at this
    rw [e]; omega
theorem sgn_sum_alike {x y : Re} (h : sgn x = sgn y ∨ sgn y = 0) : sgn (x + y) = sgn x := by
  rcases sgn_cases x with ⟨hx, e⟩ | ⟨hx, e⟩ | ⟨hx, e⟩ <;> rcases sgn_cases y with ⟨hy, f⟩ | ⟨hy, f⟩ | ⟨hy, f⟩ <;> rw [e, f] at h <;> rw [e] <;>
    first | (exact absurd h (by decide)) | exact sgn_pos (by grind) | exact sgn_neg (by grind) | (rw [sgn_eq_zero]; grind)
theorem sgn_sum_zero {x y : Re} (h : sgn x = 0) : sgn (x + y) = sgn y := by
  rw [sgn_eq_zero.mp h, show (0 : Re) + y = y by grind]
theorem sgn_sum_unlike {x y : Re} (h1 : sgn x ≠ sgn y) (h2 : sgn y ≠ 0) (h3 : sgn x ≠ 0) : sgn (x + y) = sgn x * sgn (x * x - y * y) := by
  rw [show x * x - y * y = (x - y) * (x + y) by grind, sgn_mul]
  rcases sgn_cases x with ⟨hx, e⟩ | ⟨hx, e⟩ | ⟨hx, e⟩ <;> rcases sgn_cases y with ⟨hy, f⟩ | ⟨hy, f⟩ | ⟨hy, f⟩ <;> rw [e, f] at h1 <;> rw [f] at h2 <;> rw [e] at h3 <;>
    first
    | exact absurd rfl h1 | exact absurd rfl h2 | exact absurd rfl h3
    | (rw [e, sgn_pos (x := x - y) (by grind)]; omega)
    | (rw [e, sgn_neg (x := x - y) (by grind)]; omega)
theorem sgn_sqrt {x : Re} (h : 0 ≤ x) : sgn (sqrt x) = sgn x := by
  have h0 := sqrt_nonneg x
  have hs := sqrt_sq h
  have := sgn_mul (sqrt x) (sqrt x)
  rw [hs] at this
  rcases sgn_cases (sqrt x) with ⟨_, e⟩ | ⟨_, e⟩ | ⟨k, e⟩ <;> rw [e] at this ⊢ <;> first | exact this.symm | (exfalso; grind)
theorem sqrt_mul {x y : Re} (hx : 0 ≤ x) (hy : 0 ≤ y) : sqrt x * sqrt y = sqrt (x * y) := by
  have h1 := sqrt_sq hx
  have h2 := sqrt_sq hy
  exact (sqrt_eq (mul_nonneg (sqrt_nonneg x) (sqrt_nonneg y)) (by grind)).symm
theorem sgn_part (q : Rat) {d : Rat} (hd : 0 ≤ d) : sgn (rat q * sqrt (rat d)) = q.num.sign * d.num.sign := by
  rw [sgn_mul, sgn_sqrt (rat_nonneg.mpr hd), sgn_rat, sgn_rat]
theorem part_sq (q : Rat) {d : Rat} (hd : 0 ≤ d) : rat q * sqrt (rat d) * (rat q * sqrt (rat d)) = rat (q * q * d) := by
  have := sqrt_sq (rat_nonneg.mpr hd)
  rw [rat_mul, rat_mul]; grind
theorem part_mul (q s : Rat) {d e : Rat} (hd : 0 ≤ d) (he : 0 ≤ e) : rat q * sqrt (rat d) * (rat s * sqrt (rat e)) = rat (q * s) * sqrt (rat (d * e)) := by
  have := sqrt_mul (rat_nonneg.mpr hd) (rat_nonneg.mpr he)
  rw [rat_mul, rat_mul, ← this]; grind
/-- the sign of a fraction and a root, by signs and squares -/
theorem sgn_rv (p q : Rat) {d : Rat} (hd : 0 ≤ d) : sgn (rv p q d) = if p.num.sign = q.num.sign * d.num.sign ∨ q.num.sign * d.num.sign = 0 then p.num.sign else if p.num.sign = 0 then q.num.sign * d.num.sign else p.num.sign * (p * p - q * q * d).num.sign := by
  have hp := sgn_rat p
  have hq := sgn_part q hd
  unfold rv
  rw [← hp, ← hq]
  split
  · next h => exact sgn_sum_alike h
  · next h =>
    split
    · next k => exact sgn_sum_zero k
    · next k =>
      rw [sgn_sum_unlike (fun e => h (.inl e)) (fun e => h (.inr e)) k, part_sq q hd, ← rat_mul, ← rat_sub, sgn_rat p, sgn_rat]
/-- the square of a gap less the square of a sum of two roots -/
theorem gap_sq (g q s : Rat) {d e : Rat} (hd : 0 ≤ d) (he : 0 ≤ e) : rat g * rat g - (rat q * sqrt (rat d) - rat s * sqrt (rat e)) * (rat q * sqrt (rat d) - rat s * sqrt (rat e)) = rv (g * g - q * q * d - s * s * e) (2 * q * s) (d * e) := by
  have h1 := part_sq q hd
  have h2 := part_sq s he
  have h3 := part_mul q s hd he
  unfold rv
  rw [rat_sub, rat_sub, ← h1, ← h2, show (2 * q * s : Rat) = 2 * (q * s) by grind, rat_mul 2 (q * s), rat_mul g g, Re.mul_assoc (rat 2), ← h3]
  have : rat 2 = (2 : Re) := rfl
  rw [this]; grind
/-- the sign of a difference of two roots, by signs and squares -/
theorem sgn_two (q s : Rat) {d e : Rat} (hd : 0 ≤ d) (he : 0 ≤ e) : sgn (rat q * sqrt (rat d) - rat s * sqrt (rat e)) = if q.num.sign * d.num.sign = -(s.num.sign * e.num.sign) ∨ s.num.sign * e.num.sign = 0 then q.num.sign * d.num.sign else if q.num.sign * d.num.sign = 0 then -(s.num.sign * e.num.sign) else q.num.sign * d.num.sign * (q * q * d - s * s * e).num.sign := by
  have h1 := sgn_part q hd
  have h2 := sgn_part s he
  have h3 : sgn (-(rat s * sqrt (rat e))) = -(s.num.sign * e.num.sign) := by rw [sgn_opp, h2]
  rw [show rat q * sqrt (rat d) - rat s * sqrt (rat e) = rat q * sqrt (rat d) + -(rat s * sqrt (rat e)) by grind]
  split
  · next h => rw [sgn_sum_alike (by rw [h1, h3]; omega), h1]
  · next h =>
    split
    · next k => rw [sgn_sum_zero (by rw [h1, k]), h3]
    · next k =>
      rw [sgn_sum_unlike (by rw [h1, h3]; omega) (by rw [h3]; omega) (by rw [h1]; exact k), h1, part_sq q hd, show -(rat s * sqrt (rat e)) * -(rat s * sqrt (rat e)) = rat s * sqrt (rat e) * (rat s * sqrt (rat e)) by grind, part_sq s he, ← rat_sub, sgn_rat]
/-- the sign of a difference of two root numbers, out of that of the fractions and that of the roots -/
theorem sgn_gap (p q r s : Rat) {d e : Rat} (hd : 0 ≤ d) (he : 0 ≤ e) {z : Int} (hz : sgn (rat q * sqrt (rat d) - rat s * sqrt (rat e)) = z) : sgn (rv p q d - rv r s e) = if (p - r).num.sign = z ∨ z = 0 then (p - r).num.sign else if (p - r).num.sign = 0 then z else (p - r).num.sign * sgn (rv ((p - r) * (p - r) - q * q * d - s * s * e) (2 * q * s) (d * e)) := by
  have h1 := sgn_rat (p - r)
  rw [show rv p q d - rv r s e = rat (p - r) + (rat q * sqrt (rat d) - rat s * sqrt (rat e)) by unfold rv; rw [rat_sub]; grind]
  split
  · next h => rw [sgn_sum_alike (by rw [h1, hz]; exact h), h1]
  · next h =>
    split
    · next k => rw [sgn_sum_zero (by rw [h1, k]), hz]
    · next k => rw [sgn_sum_unlike (by rw [h1, hz]; exact fun x => h (.inl x)) (by rw [hz]; exact fun x => h (.inr x)) (by rw [h1]; exact k), h1, gap_sq (p - r) q s hd he]
end Re

/-! ### towers: whole numbers and roots over them -/
section
open Re
def Num : Nat → Type
  | 0 => Int
  | n + 1 => Num n × Num n
@[reducible] def toI (x : Num 0) : Int := x
def Sty : Nat → Type
  | 0 => Unit
  | n + 1 => Sty n × Num n
def nZero : (n : Nat) → Num n
  | 0 => (0 : Int)
  | n + 1 => (nZero n, nZero n)
def nAdd : (n : Nat) → Num n → Num n → Num n
  | 0, x, y => Int.add x y
  | n + 1, (a, b), (c, d) => (nAdd n a c, nAdd n b d)
def nScl : (n : Nat) → Num n → Int → Num n
  | 0, x, k => Int.mul x k
  | n + 1, (a, b), k => (nScl n a k, nScl n b k)
def nMul : (n : Nat) → Sty n → Num n → Num n → Num n
  | 0, _, x, y => Int.mul x y
  | n + 1, (s, u), (a, b), (c, d) => (nAdd n (nMul n s a c) (nMul n s u (nMul n s b d)), nAdd n (nMul n s a d) (nMul n s b c))
noncomputable def nVal : (n : Nat) → Sty n → Num n → Re
  | 0, _, x => rat ((toI x : Int) : Rat)
  | n + 1, (s, u), (a, b) => nVal n s a + nVal n s b * sqrt (nVal n s u)
def nBt : (n : Nat) → Nat → Num n → Prop
  | 0, m, x => Bt m x
  | n + 1, m, (a, b) => nBt n m a ∧ nBt n m b
def sOk : (n : Nat) → Sty n → Prop
  | 0, _ => True
  | n + 1, (s, u) => sOk n s ∧ 0 ≤ nVal n s u
def sBt : (n : Nat) → Nat → Sty n → Prop
  | 0, _, _ => True
  | n + 1, U, (s, u) => sBt n U s ∧ nBt n U u
def cU : Nat → Nat → Nat
  | 0, _ => 0
  | n + 1, U => U + 2 * cU n U + 1
def sC : Nat → Nat → Nat → Prop
  | 0, _, _ => True
  | n + 1, U, m => 2 * m + cU (n + 1) U ≤ 134217728 ∧ sC n U (2 * m + cU (n + 1) U + 1) ∧ sC n U m ∧ sC n U U
theorem nVal_zero : ∀ (n : Nat) (s : Sty n), nVal n s (nZero n) = 0
  | 0, _ => show rat (((0 : Int)) : Rat) = 0 from rfl
  | n + 1, (s, u) => by
    show nVal n s (nZero n) + nVal n s (nZero n) * sqrt (nVal n s u) = 0
    rw [nVal_zero n s]; grind
theorem nVal_add : ∀ (n : Nat) (s : Sty n) (x y : Num n), nVal n s (nAdd n x y) = nVal n s x + nVal n s y
  | 0, _, x, y => by
    show rat (((toI x + toI y : Int)) : Rat) = rat ((toI x : Int) : Rat) + rat ((toI y : Int) : Rat)
    rw [← rat_add]; exact congrArg rat (Rat.intCast_add (toI x) (toI y))
  | n + 1, (s, u), (a, b), (c, d) => by
    show nVal n s (nAdd n a c) + nVal n s (nAdd n b d) * sqrt (nVal n s u) = (nVal n s a + nVal n s b * sqrt (nVal n s u)) + (nVal n s c + nVal n s d * sqrt (nVal n s u))
    rw [nVal_add n s, nVal_add n s]; grind
theorem nVal_scl : ∀ (n : Nat) (s : Sty n) (x : Num n) (k : Int), nVal n s (nScl n x k) = nVal n s x * rat (k : Rat)
  | 0, _, x, k => by
    show rat (((toI x * k : Int)) : Rat) = rat ((toI x : Int) : Rat) * rat (k : Rat)
    rw [← rat_mul]; exact congrArg rat (Rat.intCast_mul (toI x) k)
  | n + 1, (s, u), (a, b), k => by
    show nVal n s (nScl n a k) + nVal n s (nScl n b k) * sqrt (nVal n s u) = (nVal n s a + nVal n s b * sqrt (nVal n s u)) * rat (k : Rat)
    rw [nVal_scl n s, nVal_scl n s]; grind
theorem nVal_mul : ∀ (n : Nat) (s : Sty n), sOk n s → ∀ (x y : Num n), nVal n s (nMul n s x y) = nVal n s x * nVal n s y
  | 0, _, _, x, y => by
    show rat (((toI x * toI y : Int)) : Rat) = rat ((toI x : Int) : Rat) * rat ((toI y : Int) : Rat)
    rw [← rat_mul]; exact congrArg rat (Rat.intCast_mul (toI x) (toI y))
  | n + 1, (s, u), hs, (a, b), (c, d) => by
    have ih := nVal_mul n s hs.1
    have hq := sqrt_sq hs.2
    show nVal n s (nAdd n (nMul n s a c) (nMul n s u (nMul n s b d))) + nVal n s (nAdd n (nMul n s a d) (nMul n s b c)) * sqrt (nVal n s u) = (nVal n s a + nVal n s b * sqrt (nVal n s u)) * (nVal n s c + nVal n s d * sqrt (nVal n s u))
    rw [nVal_add, nVal_add, ih, ih, ih, ih, ih]; grind
theorem nBt_mono : ∀ (n : Nat) {m k : Nat} {x : Num n}, nBt n m x → m ≤ k → nBt n k x
  | 0, _, _, _, h, hk => Bt.mono h hk
  | n + 1, _, _, (_, _), h, hk => ⟨nBt_mono n h.1 hk, nBt_mono n h.2 hk⟩
theorem nBt_zero : ∀ (n m : Nat), nBt n m (nZero n)
  | 0, m => show (0 : Int).natAbs < 2 ^ m from Nat.pow_pos (by decide)
  | n + 1, m => ⟨nBt_zero n m, nBt_zero n m⟩
theorem nBt_add : ∀ (n : Nat) {m : Nat} {x y : Num n}, nBt n m x → nBt n m y → nBt n (m + 1) (nAdd n x y)
  | 0, _, x, y, h, k => Bt.add (x := toI x) (y := toI y) h k
  | n + 1, _, (_, _), (_, _), h, k => ⟨nBt_add n h.1 k.1, nBt_add n h.2 k.2⟩
theorem nBt_scl : ∀ (n : Nat) {m j : Nat} {x : Num n} {k : Int}, nBt n m x → Bt j k → nBt n (m + j) (nScl n x k)
  | 0, _, _, x, _, h, k => Bt.mul (x := toI x) h k
  | n + 1, _, _, (_, _), _, h, k => ⟨nBt_scl n h.1 k, nBt_scl n h.2 k⟩
theorem nBt_mul : ∀ (n : Nat) {U m k : Nat} {s : Sty n} {x y : Num n}, sBt n U s → nBt n m x → nBt n k y → nBt n (m + k + cU n U) (nMul n s x y)
  | 0, _, m, k, _, x, y, _, hx, hy => (Bt.mul (m := m) (n := k) (x := toI x) (y := toI y) hx hy : Bt (m + k) _)
  | n + 1, U, m, k, (s, u), (a, b), (c, d), hs, hx, hy => by
    have h1 := nBt_mul n hs.1 hx.1 hy.1
    have h2 := nBt_mul n hs.1 hs.2 (nBt_mul n hs.1 hx.2 hy.2)
    have h3 := nBt_mul n hs.1 hx.1 hy.2
    have h4 := nBt_mul n hs.1 hx.2 hy.1
    have e : cU (n + 1) U = U + 2 * cU n U + 1 := rfl
    refine ⟨nBt_mono n (nBt_add n (nBt_mono n h1 (k := m + k + (U + 2 * cU n U)) (by omega)) (nBt_mono n h2 (by omega))) (by omega), nBt_mono n (nBt_add n h3 h4) (by omega)⟩
/-- the sign of a number of a storey, as sign reckons it -/
theorem nSgn {n : Nat} {s : Sty n} {u a b : Num n} (hs : sOk (n + 1) (s, u)) : sgn (nVal (n + 1) (s, u) (a, b)) =
    if sgn (nVal n s b) * sgn (nVal n s u) = 0 ∨ sgn (nVal n s a) = sgn (nVal n s b) * sgn (nVal n s u) then sgn (nVal n s a) else if sgn (nVal n s a) = 0 then sgn (nVal n s b) * sgn (nVal n s u)
    else sgn (nVal n s a) * sgn (nVal n s (nAdd n (nMul n s a a) (nScl n (nMul n s u (nMul n s b b)) (-1)))) := by
  have hq := sqrt_sq hs.2
  have e1 : sgn (nVal n s b * sqrt (nVal n s u)) = sgn (nVal n s b) * sgn (nVal n s u) := by rw [sgn_mul, sgn_sqrt hs.2]
  have e2 : nVal n s (nAdd n (nMul n s a a) (nScl n (nMul n s u (nMul n s b b)) (-1))) = nVal n s a * nVal n s a - nVal n s b * sqrt (nVal n s u) * (nVal n s b * sqrt (nVal n s u)) := by
    rw [nVal_add, nVal_scl, nVal_mul n s hs.1, nVal_mul n s hs.1, nVal_mul n s hs.1, show rat ((-1 : Int) : Rat) = (-1 : Re) from rfl]; grind
  show sgn (nVal n s a + nVal n s b * sqrt (nVal n s u)) = _
  rw [e2, ← e1]
  split
  · next h => exact sgn_sum_alike (h.elim .inr .inl)
  · next h =>
    split
    · next k => exact sgn_sum_zero k
    · next k => exact sgn_sum_unlike (fun e => h (.inr e)) (fun e => h (.inl e)) k
theorem bt_sgn (x : Re) : Bt 1 (sgn x) := by
  rcases sgn_cases x with ⟨_, e⟩ | ⟨_, e⟩ | ⟨_, e⟩ <;> rw [e] <;> exact bt_lit (by decide)
/-! what stands in the heap -/
def NumV : (n : Nat) → Hp → V → Num n → Prop
  | 0, _, v, x => v = .int x
  | n + 1, H, v, (a, b) => ∃ p va vb, v = .ref p ∧ H p = some (.tup [va, vb]) ∧ NumV n H va a ∧ NumV n H vb b
theorem NumV.same : ∀ {n : Nat} {H H' : Hp} {v : V} {x : Num n}, Same H H' → NumV n H v x → NumV n H' v x
  | 0, _, _, _, _, _, h => h
  | n + 1, _, _, _, (_, _), e, ⟨p, va, vb, h1, h2, h3, h4⟩ => ⟨p, va, vb, h1, e _ _ h2, NumV.same e h3, NumV.same e h4⟩
variable {P : Program} {w : World} {K : PySem.W.Frag} {mg : Str → Option Value} {base : Heap}
def mSel {α : Type} (n : Nat) (a b : α) : α := match n with
  | 0 => a
  | _ + 1 => b
def cN (T : Tx K mg) (n : Nat) : Addr := mSel n T.c_Whole T.c_Rooted
theorem clN (T : Tx K mg) : ∀ n, Cls K (cN T n)
  | 0 => T.cl_Whole
  | _ + 1 => T.cl_Rooted
def rFlds (b u : V) : List (Str × V) := [("below", b), ("under", u)]
def StV (T : Tx K mg) : (n : Nat) → Hp → V → Sty n → Prop
  | 0, H, v, _ => ∃ p dx, v = .ref p ∧ H p = some (.ins T.c_Whole dx [])
  | n + 1, H, v, (s, u) => ∃ p dx vb vu, v = .ref p ∧ H p = some (.ins T.c_Rooted dx (rFlds vb vu)) ∧ StV T n H vb s ∧ NumV n H vu u
theorem StV.same {T : Tx K mg} : ∀ {n : Nat} {H H' : Hp} {v : V} {s : Sty n}, Same H H' → StV T n H v s → StV T n H' v s
  | 0, _, _, _, _, e, ⟨p, dx, h1, h2⟩ => ⟨p, dx, h1, e _ _ h2⟩
  | n + 1, _, _, _, (_, _), e, ⟨p, dx, vb, vu, h1, h2, h3, h4⟩ => ⟨p, dx, vb, vu, h1, e _ _ h2, StV.same e h3, h4.same e⟩
theorem StV.at {T : Tx K mg} : ∀ {n : Nat} {H : Hp} {v : V} {s : Sty n}, StV T n H v s → ∃ a dx fs, v = .ref a ∧ H a = some (.ins (cN T n) dx fs) ∧ ∀ m : Str, m ≠ "below" → m ≠ "under" → fs.lookup m = none
  | 0, _, _, _, ⟨p, dx, h1, h2⟩ => ⟨p, dx, _, h1, h2, fun _ _ _ => rfl⟩
  | n + 1, _, _, (_, _), ⟨p, dx, vb, vu, h1, h2, h3, h4⟩ => ⟨p, dx, _, h1, h2, fun m n1 n2 => by
    have b1 : (m == ("below" : Str)) = false := beq_eq_false_iff_ne.mpr n1
    have b2 : (m == ("under" : Str)) = false := beq_eq_false_iff_ne.mpr n2
    simp only [rFlds, List.lookup, b1, b2]⟩
theorem rd_below {T : Tx K mg} {n : Nat} {i : Nat} {σ : L2.St} {H : Hp} {o : V} {s : Sty n} {u : Num n} {Q : VK} (h : σ[i]? = some (some o)) (hS : StV T (n + 1) H o (s, u)) (q : ∀ vb, StV T n H vb s → Q vb H) : tFld K (tVar i) "below" σ H Q := by
  obtain ⟨p, dx, vb, vu, rfl, h2, h3, h4⟩ := hS
  exact ⟨_, h, p, _, dx, _, vb, rfl, h2, T.cl_Rooted, T.n_Rooted_below, rfl, q vb h3⟩
theorem rd_under {T : Tx K mg} {n : Nat} {i : Nat} {σ : L2.St} {H : Hp} {o : V} {s : Sty n} {u : Num n} {Q : VK} (h : σ[i]? = some (some o)) (hS : StV T (n + 1) H o (s, u)) (q : ∀ vu, NumV n H vu u → Q vu H) : tFld K (tVar i) "under" σ H Q := by
  obtain ⟨p, dx, vb, vu, rfl, h2, h3, h4⟩ := hS
  exact ⟨_, h, p, _, dx, _, vu, rfl, h2, T.cl_Rooted, T.n_Rooted_under, rfl, q vu h4⟩
theorem rd_mth {T : Tx K mg} {n : Nat} {H : Hp} {v : V} {s : Sty n} {m : Str} {R : Prop} (hS : StV T n H v s) (h1 : m ≠ "below") (h2 : m ≠ "under") (q : R) : ∃ a dx fs, v = .ref a ∧ H a = some (.ins (cN T n) dx fs) ∧ fs.lookup m = none ∧ R := by
  obtain ⟨a, dx, fs, e, h, k⟩ := hS.at
  exact ⟨a, dx, fs, e, h, k m h1 h2, q⟩
theorem rd_fst {n : Nat} {i : Nat} {σ : L2.St} {H : Hp} {v : V} {a b : Num n} {Q : VK} (h : σ[i]? = some (some v)) (hx : NumV (n + 1) H v (a, b)) (q : ∀ va, NumV n H va a → Q va H) : tOp (rIxT K) (tVar i) (tC (.int 0)) σ H Q := by
  obtain ⟨p, va, vb, rfl, h2, h3, h4⟩ := hx
  exact rd_ixT h h2 rfl (q va h3)
theorem rd_snd {n : Nat} {i : Nat} {σ : L2.St} {H : Hp} {v : V} {a b : Num n} {Q : VK} (h : σ[i]? = some (some v)) (hx : NumV (n + 1) H v (a, b)) (q : ∀ vb, NumV n H vb b → Q vb H) : tOp (rIxT K) (tVar i) (tC (.int 1)) σ H Q := by
  obtain ⟨p, va, vb, rfl, h2, h3, h4⟩ := hx
  exact rd_ixT h h2 rfl (q vb h4)
theorem num_new {n : Nat} {H : Hp} {p : Addr} {va vb : V} {a b : Num n} (hp : H p = none) (h1 : NumV n H va a) (h2 : NumV n H vb b) : NumV (n + 1) (upd H p (.tup [va, vb])) (.ref p) (a, b) :=
  ⟨p, va, vb, rfl, upd_same, h1.same (same_upd hp), h2.same (same_upd hp)⟩
theorem rd_tm {C : Addr} {m : Str} {sp : Sp} {dvs : List V} {E : XK} {ta : TE} {t : TA} {σ : L2.St} {H : Hp} {Q : VK} (q : ta σ H fun x H1 => ∃ a dx fs, x = .ref a ∧ H1 a = some (.ins C dx fs) ∧ fs.lookup m = none ∧ t σ H1 fun vs H2 => sp (x :: (vs ++ dvs)) H2 Q E) : tMeth C m sp dvs E ta t σ H Q := q
/-! the promises -/
def sp_nou (T : Tx K mg) (n : Nat) : Sp := fun vs H Q _ => ∃ o s, vs = [o] ∧ StV T n H o s ∧ ∀ H' v, Same H H' → NumV n H' v (nZero n) → Q v H'
def sp_nadd (T : Tx K mg) (n : Nat) : Sp := fun vs H Q _ => ∃ o a b s x y, vs = [o, a, b] ∧ StV T n H o s ∧ NumV n H a x ∧ NumV n H b y ∧ ∀ H' v, Same H H' → NumV n H' v (nAdd n x y) → Q v H'
def sp_nmul (T : Tx K mg) (n : Nat) : Sp := fun vs H Q _ => ∃ o a b s x y U m k, vs = [o, a, b] ∧ StV T n H o s ∧ NumV n H a x ∧ NumV n H b y ∧ sBt n U s ∧ nBt n m x ∧ nBt n k y ∧ m + k + cU n U ≤ 134217728 ∧ ∀ H' v, Same H H' → NumV n H' v (nMul n s x y) → Q v H'
def sp_nscl (T : Tx K mg) (n : Nat) : Sp := fun vs H Q _ => ∃ o a s x k m j, vs = [o, a, .int k] ∧ StV T n H o s ∧ NumV n H a x ∧ nBt n m x ∧ Bt j k ∧ m + j ≤ 134217728 ∧ ∀ H' v, Same H H' → NumV n H' v (nScl n x k) → Q v H'
def sp_nsgn (T : Tx K mg) (n : Nat) : Sp := fun vs H Q _ => ∃ o a s x U m, vs = [o, a] ∧ StV T n H o s ∧ NumV n H a x ∧ sOk n s ∧ sBt n U s ∧ nBt n m x ∧ sC n U m ∧ ∀ H', Same H H' → Q (.int (sgn (nVal n s x))) H'
def sp_nlft (T : Tx K mg) (n : Nat) : Sp := fun vs H Q _ => ∃ o a s x, vs = [o, a] ∧ StV T (n + 1) H o s ∧ NumV n H a x ∧ ∀ H' v, Same H H' → NumV (n + 1) H' v (x, nZero n) → Q v H'
def sp_ninit (T : Tx K mg) : Sp := fun vs H Q _ => ∃ p dx vb vu, vs = [.ref p, vb, vu] ∧ H p = some (.ins T.c_Rooted dx []) ∧ ∀ H', H' p = some (.ins T.c_Rooted dx (rFlds vb vu)) → (∀ b o, H b = some o → b ≠ p → H' b = some o) → Q .non H'
theorem ok_Rooted___init__ (T : Tx K mg) : FnOk P w K mg base CX0 1 T.f_Rooted___init__ T.d_Rooted___init__ ["self", "below", "under"] (sp_ninit T) := by
  refine T.F_Rooted___init__.ok sc_Rooted___init__ (fun vs H Q E h => ?_) (fun cdv A outer s H vs Q E hr h => ?_)
  · obtain ⟨p, dx, vb, vu, rfl, _⟩ := h
    rfl
  obtain ⟨p, dx, vb, vu, rfl, hp, k⟩ := h
  refine ⟨_, (pss_cons (ps_fld (pv 0) (pv 1) rfl)
      (pss_one (ps_fld (pv 0) (pv 2) rfl))), ?_⟩
  refine ⟨vb, rfl, _, rfl, p, _, dx, _, rfl, hp, T.cl_Rooted, T.n_Rooted_below, (by show 0 < 1000; decide), vu, rfl, _, rfl, p, _, dx, _, rfl, upd_same, T.cl_Rooted, T.n_Rooted_under, (by show 1 < 1000; decide), ?_⟩
  refine k _ ?_ fun b o e hb => ?_
  · rw [upd_same]
    exact congrArg (fun l => some (HO.ins T.c_Rooted dx l)) (by
      show (if ("below" : Str) = "under" then [(("below" : Str), vu)] else (("below" : Str), vb) :: putF "under" vu []) = _
      rw [if_neg (by decide +kernel)]; rfl)
  · rw [upd_ne hb, upd_ne hb]; exact e
def f_nou (T : Tx K mg) (n : Nat) : Addr := mSel n T.f_Whole_nought T.f_Rooted_nought
def d_nou (T : Tx K mg) (n : Nat) : FuncData := mSel n T.d_Whole_nought T.d_Rooted_nought
theorem M_nou (T : Tx K mg) : ∀ n, Meth K (cN T n) "nought" (f_nou T n)
  | 0 => T.M_Whole_nought
  | _ + 1 => T.M_Rooted_nought
theorem b_nou (T : Tx K mg) : ∀ n, Binds K (d_nou T n) ["self"] []
  | 0 => T.b_Whole_nought
  | _ + 1 => T.b_Rooted_nought
theorem tw_nou (T : Tx K mg) : ∀ n, FnOk P w K mg base CX0 (n + 1) (f_nou T n) (d_nou T n) ["self"] (sp_nou T n)
  | 0 => by
    refine T.F_Whole_nought.ok sc_Whole_nought (fun vs H Q E h => ?_) (fun cdv A outer s H vs Q E hr h => ?_)
    · obtain ⟨_, _, rfl, _⟩ := h
      rfl
    obtain ⟨o, s, rfl, hS, k⟩ := h
    refine ⟨_, (pss_one (ps_ret pe_int)), ?_⟩
    exact k H _ (Same.refl _) rfl
  | n + 1 => by
    have cl_N := clN T n
    have M_N_nought := M_nou T n
    have G_N_nought := tw_nou T n
    have b_N_nought := b_nou T n
    refine T.F_Rooted_nought.ok sc_Rooted_nought (fun vs H Q E h => ?_) (fun cdv A outer s H vs Q E hr h => ?_)
    · obtain ⟨_, _, rfl, _⟩ := h
      rfl
    obtain ⟨o, ⟨s, u⟩, rfl, hS, k⟩ := h
    refine ⟨_, (pss_one (ps_ret (pe_tup (pa_cons (pe_meth0 (pe_fld (pv 0) rfl) cl_N M_N_nought G_N_nought (hr.mono (by first | decide | omega)) b_N_nought .nil pass0) (pa_cons (pe_meth0 (pe_fld (pv 0) rfl) cl_N M_N_nought G_N_nought (hr.mono (by first | decide | omega)) b_N_nought .nil pass0) pa_nil))))), ?_⟩
    refine rd_ret (rd_tup (rd_cons (rd_tm (rd_below (o := o) rfl hS fun vb hb => ?_))))
    refine rd_mth hb (by decide +kernel) (by decide +kernel) ⟨_, s, rfl, hb, fun H1 v1 S1 z1 => ?_⟩
    refine rd_cons (rd_tm (rd_below (o := o) rfl (hS.same S1) fun vb hb => ?_))
    refine rd_mth hb (by decide +kernel) (by decide +kernel) ⟨_, s, rfl, hb, fun H2 v2 S2 z2 => ?_⟩
    exact ⟨sz_n (by decide : 2 ≤ 1000), fun p hp => k _ _ ((S1.trans S2).trans (same_upd hp)) (num_new hp (z1.same S2) z2)⟩
theorem ok_Rooted_lifted (T : Tx K mg) (n : Nat) : FnOk P w K mg base CX0 (n + 2) T.f_Rooted_lifted T.d_Rooted_lifted ["self", "one"] (sp_nlft T n) := by
  have cl_N := clN T n
  have M_N_nought := M_nou T n
  have G_N_nought := tw_nou (P := P) (w := w) (base := base) T n
  have b_N_nought := b_nou T n
  refine T.F_Rooted_lifted.ok sc_Rooted_lifted (fun vs H Q E h => ?_) (fun cdv A outer s H vs Q E hr h => ?_)
  · obtain ⟨_, _, _, _, rfl, _⟩ := h
    rfl
  obtain ⟨o, a, ⟨s, u⟩, x, rfl, hS, ha, k⟩ := h
  refine ⟨_, (pss_one (ps_ret (pe_tup (pa_cons (pv 1) (pa_cons (pe_meth0 (pe_fld (pv 0) rfl) cl_N M_N_nought G_N_nought (hr.mono (by first | decide | omega)) b_N_nought .nil pass0) pa_nil))))), ?_⟩
  refine ⟨_, rfl, ?_⟩
  refine rd_cons (rd_tm (rd_below (o := o) rfl hS fun vb hb => ?_))
  refine rd_mth hb (by decide +kernel) (by decide +kernel) ⟨_, s, rfl, hb, fun H1 v1 S1 z1 => ?_⟩
  exact ⟨sz_n (by decide : 2 ≤ 1000), fun p hp => k _ _ (S1.trans (same_upd hp)) (num_new hp (ha.same S1) z1)⟩
def f_nadd (T : Tx K mg) (n : Nat) : Addr := mSel n T.f_Whole_plus T.f_Rooted_plus
def d_nadd (T : Tx K mg) (n : Nat) : FuncData := mSel n T.d_Whole_plus T.d_Rooted_plus
theorem M_nadd (T : Tx K mg) : ∀ n, Meth K (cN T n) "plus" (f_nadd T n)
  | 0 => T.M_Whole_plus
  | _ + 1 => T.M_Rooted_plus
theorem b_nadd (T : Tx K mg) : ∀ n, Binds K (d_nadd T n) ["self", "one", "other"] []
  | 0 => T.b_Whole_plus
  | _ + 1 => T.b_Rooted_plus
theorem tw_nadd (T : Tx K mg) : ∀ n, FnOk P w K mg base CX0 (n + 1) (f_nadd T n) (d_nadd T n) ["self", "one", "other"] (sp_nadd T n)
  | 0 => by
    refine T.F_Whole_plus.ok sc_Whole_plus (fun vs H Q E h => ?_) (fun cdv A outer s H vs Q E hr h => ?_)
    · obtain ⟨_, _, _, _, _, _, rfl, _⟩ := h
      rfl
    obtain ⟨o, _, _, s, x, y, rfl, hS, rfl, rfl, k⟩ := h
    refine ⟨_, (pss_one (ps_ret (pe_op op_add (pv 1) (pv 2)))), ?_⟩
    exact ⟨_, rfl, _, rfl, rd_i0 (k H _ (Same.refl _) rfl)⟩
  | n + 1 => by
    have cl_N := clN T n
    have M_N_plus := M_nadd T n
    have G_N_plus := tw_nadd T n
    have b_N_plus := b_nadd T n
    refine T.F_Rooted_plus.ok sc_Rooted_plus (fun vs H Q E h => ?_) (fun cdv A outer s H vs Q E hr h => ?_)
    · obtain ⟨_, _, _, _, _, _, rfl, _⟩ := h
      rfl
    obtain ⟨o, va, vb, ⟨s, u⟩, ⟨a, b⟩, ⟨c, d⟩, rfl, hS, hx, hy, k⟩ := h
    refine ⟨_, (pss_one (ps_ret (pe_tup (pa_cons (pe_meth (pe_fld (pv 0) rfl) cl_N M_N_plus G_N_plus (hr.mono (by first | decide | omega)) b_N_plus .nil pass0 (pa_cons (pe_ix ix_tup (pv 1) pe_int (fun _ _ => rfl)) (pa_cons (pe_ix ix_tup (pv 2) pe_int (fun _ _ => rfl)) pa_nil))) (pa_cons (pe_meth (pe_fld (pv 0) rfl) cl_N M_N_plus G_N_plus (hr.mono (by first | decide | omega)) b_N_plus .nil pass0 (pa_cons (pe_ix ix_tup (pv 1) pe_int (fun _ _ => rfl)) (pa_cons (pe_ix ix_tup (pv 2) pe_int (fun _ _ => rfl)) pa_nil))) pa_nil))))), ?_⟩
    refine rd_ret (rd_tup (rd_cons (rd_tm (rd_below (o := o) rfl hS fun vb hb => ?_))))
    refine rd_mth hb (by decide +kernel) (by decide +kernel) (rd_fst rfl hx fun v1 h1 => rd_fst rfl hy fun v2 h2 => ⟨_, _, _, s, _, _, rfl, hb, h1, h2, fun H1 w1 S1 z1 => ?_⟩)
    refine rd_cons (rd_tm (rd_below (o := o) rfl (hS.same S1) fun vb hb => ?_))
    refine rd_mth hb (by decide +kernel) (by decide +kernel) (rd_snd rfl (hx.same S1) fun v1 h1 => rd_snd rfl (hy.same S1) fun v2 h2 => ⟨_, _, _, s, _, _, rfl, hb, h1, h2, fun H2 w2 S2 z2 => ?_⟩)
    exact ⟨sz_n (by decide : 2 ≤ 1000), fun p hp => k _ _ ((S1.trans S2).trans (same_upd hp)) (num_new hp (z1.same S2) z2)⟩
def f_nscl (T : Tx K mg) (n : Nat) : Addr := mSel n T.f_Whole_scaled T.f_Rooted_scaled
def d_nscl (T : Tx K mg) (n : Nat) : FuncData := mSel n T.d_Whole_scaled T.d_Rooted_scaled
theorem M_nscl (T : Tx K mg) : ∀ n, Meth K (cN T n) "scaled" (f_nscl T n)
  | 0 => T.M_Whole_scaled
  | _ + 1 => T.M_Rooted_scaled
theorem b_nscl (T : Tx K mg) : ∀ n, Binds K (d_nscl T n) ["self", "one", "by"] []
  | 0 => T.b_Whole_scaled
  | _ + 1 => T.b_Rooted_scaled
theorem tw_nscl (T : Tx K mg) : ∀ n, FnOk P w K mg base CX0 (n + 1) (f_nscl T n) (d_nscl T n) ["self", "one", "by"] (sp_nscl T n)
  | 0 => by
    refine T.F_Whole_scaled.ok sc_Whole_scaled (fun vs H Q E h => ?_) (fun cdv A outer s H vs Q E hr h => ?_)
    · obtain ⟨_, _, _, _, _, _, _, rfl, _⟩ := h
      rfl
    obtain ⟨o, _, s, x, c, m, j, rfl, hS, rfl, hm, hj, hl, k⟩ := h
    refine ⟨_, (pss_one (ps_ret (pe_op op_mulX (pv 1) (pv 2)))), ?_⟩
    exact ⟨_, rfl, _, rfl, rd_mul (m := m) (n := j) hm hj hl (k H _ (Same.refl _) rfl)⟩
  | n + 1 => by
    have cl_N := clN T n
    have M_N_scaled := M_nscl T n
    have G_N_scaled := tw_nscl T n
    have b_N_scaled := b_nscl T n
    refine T.F_Rooted_scaled.ok sc_Rooted_scaled (fun vs H Q E h => ?_) (fun cdv A outer s H vs Q E hr h => ?_)
    · obtain ⟨_, _, _, _, _, _, _, rfl, _⟩ := h
      rfl
    obtain ⟨o, va, ⟨s, u⟩, ⟨a, b⟩, c, m, j, rfl, hS, hx, hm, hj, hl, k⟩ := h
    refine ⟨_, (pss_one (ps_ret (pe_tup (pa_cons (pe_meth (pe_fld (pv 0) rfl) cl_N M_N_scaled G_N_scaled (hr.mono (by first | decide | omega)) b_N_scaled .nil pass0 (pa_cons (pe_ix ix_tup (pv 1) pe_int (fun _ _ => rfl)) (pa_cons (pv 2) pa_nil))) (pa_cons (pe_meth (pe_fld (pv 0) rfl) cl_N M_N_scaled G_N_scaled (hr.mono (by first | decide | omega)) b_N_scaled .nil pass0 (pa_cons (pe_ix ix_tup (pv 1) pe_int (fun _ _ => rfl)) (pa_cons (pv 2) pa_nil))) pa_nil))))), ?_⟩
    refine rd_ret (rd_tup (rd_cons (rd_tm (rd_below (o := o) rfl hS fun vb hb => ?_))))
    refine rd_mth hb (by decide +kernel) (by decide +kernel) (rd_fst rfl hx fun v1 h1 => ⟨_, rfl, _, _, s, _, _, m, j, rfl, hb, h1, hm.1, hj, hl, fun H1 w1 S1 z1 => ?_⟩)
    refine rd_cons (rd_tm (rd_below (o := o) rfl (hS.same S1) fun vb hb => ?_))
    refine rd_mth hb (by decide +kernel) (by decide +kernel) (rd_snd rfl (hx.same S1) fun v1 h1 => ⟨_, rfl, _, _, s, _, _, m, j, rfl, hb, h1, hm.2, hj, hl, fun H2 w2 S2 z2 => ?_⟩)
    exact ⟨sz_n (by decide : 2 ≤ 1000), fun p hp => k _ _ ((S1.trans S2).trans (same_upd hp)) (num_new hp (z1.same S2) z2)⟩
def f_nmul (T : Tx K mg) (n : Nat) : Addr := mSel n T.f_Whole_times T.f_Rooted_times
def d_nmul (T : Tx K mg) (n : Nat) : FuncData := mSel n T.d_Whole_times T.d_Rooted_times
theorem M_nmul (T : Tx K mg) : ∀ n, Meth K (cN T n) "times" (f_nmul T n)
  | 0 => T.M_Whole_times
  | _ + 1 => T.M_Rooted_times
theorem b_nmul (T : Tx K mg) : ∀ n, Binds K (d_nmul T n) ["self", "one", "other"] []
  | 0 => T.b_Whole_times
  | _ + 1 => T.b_Rooted_times
theorem tw_nmul (T : Tx K mg) : ∀ n, FnOk P w K mg base CX0 (n + 1) (f_nmul T n) (d_nmul T n) ["self", "one", "other"] (sp_nmul T n)
  | 0 => by
    refine T.F_Whole_times.ok sc_Whole_times (fun vs H Q E h => ?_) (fun cdv A outer s H vs Q E hr h => ?_)
    · obtain ⟨_, _, _, _, _, _, _, _, _, rfl, _⟩ := h
      rfl
    obtain ⟨o, _, _, s, x, y, U, m, j, rfl, hS, rfl, rfl, hs, hm, hj, hl, k⟩ := h
    refine ⟨_, (pss_one (ps_ret (pe_op op_mulX (pv 1) (pv 2)))), ?_⟩
    exact ⟨_, rfl, _, rfl, rd_mul (m := m) (n := j) hm hj hl (k H _ (Same.refl _) rfl)⟩
  | n + 1 => by
    have cl_N := clN T n
    have M_N_plus := M_nadd T n
    have G_N_plus := tw_nadd (P := P) (w := w) (base := base) T n
    have b_N_plus := b_nadd T n
    have M_N_times := M_nmul T n
    have G_N_times := tw_nmul T n
    have b_N_times := b_nmul T n
    refine T.F_Rooted_times.ok sc_Rooted_times (fun vs H Q E h => ?_) (fun cdv A outer s H vs Q E hr h => ?_)
    · obtain ⟨_, _, _, _, _, _, _, _, _, rfl, _⟩ := h
      rfl
    obtain ⟨o, va, vb, ⟨s, u⟩, ⟨a, b⟩, ⟨c, d⟩, U, m, j, rfl, hS, hx, hy, hs, hm, hj, hl, k⟩ := h
    have ec : cU (n + 1) U = U + 2 * cU n U + 1 := rfl
    refine ⟨_, (pss_cons (ps_set (i := 3) sc_Rooted_times.nd rfl (Or.inl rfl) (pe_fld (pv 0) rfl))
      (pss_cons (ps_set (i := 4) sc_Rooted_times.nd rfl (Or.inl rfl) (pe_meth (pv 3) cl_N M_N_times G_N_times (hr.mono (by first | decide | omega)) b_N_times .nil pass0 (pa_cons (pe_fld (pv 0) rfl) (pa_cons (pe_meth (pv 3) cl_N M_N_times G_N_times (hr.mono (by first | decide | omega)) b_N_times .nil pass0 (pa_cons (pe_ix ix_tup (pv 1) pe_int (fun _ _ => rfl)) (pa_cons (pe_ix ix_tup (pv 2) pe_int (fun _ _ => rfl)) pa_nil))) pa_nil))))
      (pss_cons (ps_set (i := 5) sc_Rooted_times.nd rfl (Or.inl rfl) (pe_meth (pv 3) cl_N M_N_plus G_N_plus (hr.mono (by first | decide | omega)) b_N_plus .nil pass0 (pa_cons (pe_meth (pv 3) cl_N M_N_times G_N_times (hr.mono (by first | decide | omega)) b_N_times .nil pass0 (pa_cons (pe_ix ix_tup (pv 1) pe_int (fun _ _ => rfl)) (pa_cons (pe_ix ix_tup (pv 2) pe_int (fun _ _ => rfl)) pa_nil))) (pa_cons (pv 4) pa_nil))))
      (pss_cons (ps_set (i := 6) sc_Rooted_times.nd rfl (Or.inl rfl) (pe_meth (pv 3) cl_N M_N_plus G_N_plus (hr.mono (by first | decide | omega)) b_N_plus .nil pass0 (pa_cons (pe_meth (pv 3) cl_N M_N_times G_N_times (hr.mono (by first | decide | omega)) b_N_times .nil pass0 (pa_cons (pe_ix ix_tup (pv 1) pe_int (fun _ _ => rfl)) (pa_cons (pe_ix ix_tup (pv 2) pe_int (fun _ _ => rfl)) pa_nil))) (pa_cons (pe_meth (pv 3) cl_N M_N_times G_N_times (hr.mono (by first | decide | omega)) b_N_times .nil pass0 (pa_cons (pe_ix ix_tup (pv 1) pe_int (fun _ _ => rfl)) (pa_cons (pe_ix ix_tup (pv 2) pe_int (fun _ _ => rfl)) pa_nil))) pa_nil))))
      (pss_one (ps_ret (pe_tup (pa_cons (pv 5) (pa_cons (pv 6) pa_nil))))))))), ?_⟩
    -- below = self.below
    refine rd_below rfl hS fun vB hB => ?_
    -- rooted
    refine ⟨_, rfl, rd_mth hB (by decide +kernel) (by decide +kernel) (rd_under rfl hS fun vu hu => ⟨_, rfl, rd_mth hB (by decide +kernel) (by decide +kernel) (rd_snd rfl hx fun v1 h1 => rd_snd rfl hy fun v2 h2 => ⟨_, _, _, s, _, _, U, m, j, rfl, hB, h1, h2, hs.1, hm.2, hj.2, by omega, fun H1 w1 S1 z1 => ?_⟩)⟩)⟩
    refine ⟨_, _, _, s, _, _, U, U, _, rfl, hB.same S1, hu.same S1, z1, hs.1, hs.2, nBt_mul n hs.1 hm.2 hj.2, by omega, fun H2 w2 S2 z2 => ?_⟩
    have S12 := S1.trans S2
    -- plain
    refine ⟨_, rfl, rd_mth (hB.same S12) (by decide +kernel) (by decide +kernel) ⟨_, rfl, rd_mth (hB.same S12) (by decide +kernel) (by decide +kernel) (rd_fst rfl (hx.same S12) fun v1 h1 => rd_fst rfl (hy.same S12) fun v2 h2 => ⟨_, _, _, s, _, _, U, m, j, rfl, hB.same S12, h1, h2, hs.1, hm.1, hj.1, by omega, fun H3 w3 S3 z3 => ?_⟩)⟩⟩
    have S13 := S12.trans S3
    refine ⟨_, rfl, _, _, _, s, _, _, rfl, hB.same S13, z3, z2.same S3, fun H4 w4 S4 z4 => ?_⟩
    have S14 := S13.trans S4
    -- part
    refine ⟨_, rfl, rd_mth (hB.same S14) (by decide +kernel) (by decide +kernel) ⟨_, rfl, rd_mth (hB.same S14) (by decide +kernel) (by decide +kernel) (rd_fst rfl (hx.same S14) fun v1 h1 => rd_snd rfl (hy.same S14) fun v2 h2 => ⟨_, _, _, s, _, _, U, m, j, rfl, hB.same S14, h1, h2, hs.1, hm.1, hj.2, by omega, fun H5 w5 S5 z5 => ?_⟩)⟩⟩
    have S15 := S14.trans S5
    refine ⟨_, rfl, rd_mth (hB.same S15) (by decide +kernel) (by decide +kernel) (rd_snd rfl (hx.same S15) fun v1 h1 => rd_fst rfl (hy.same S15) fun v2 h2 => ⟨_, _, _, s, _, _, U, m, j, rfl, hB.same S15, h1, h2, hs.1, hm.2, hj.1, by omega, fun H6 w6 S6 z6 => ?_⟩)⟩
    have S16 := S15.trans S6
    refine ⟨_, _, _, s, _, _, rfl, hB.same S16, z5.same S6, z6, fun H7 w7 S7 z7 => ?_⟩
    have S17 := S16.trans S7
    refine ⟨_, rfl, _, rfl, sz_n (by decide : 2 ≤ 1000), fun p hp => k _ _ (S17.trans (same_upd hp)) (num_new hp (z4.same (S5.trans (S6.trans S7))) z7)⟩
def f_nsgn (T : Tx K mg) (n : Nat) : Addr := mSel n T.f_Whole_sign T.f_Rooted_sign
def d_nsgn (T : Tx K mg) (n : Nat) : FuncData := mSel n T.d_Whole_sign T.d_Rooted_sign
theorem M_nsgn (T : Tx K mg) : ∀ n, Meth K (cN T n) "sign" (f_nsgn T n)
  | 0 => T.M_Whole_sign
  | _ + 1 => T.M_Rooted_sign
theorem b_nsgn (T : Tx K mg) : ∀ n, Binds K (d_nsgn T n) ["self", "one"] []
  | 0 => T.b_Whole_sign
  | _ + 1 => T.b_Rooted_sign
theorem sgn_int (x : Int) : sgn (rat (x : Rat)) = x.sign := by
  rw [sgn_rat, Rat.num_intCast]
theorem tw_nsgn (T : Tx K mg) : ∀ n, FnOk P w K mg base CX0 (n + 1) (f_nsgn T n) (d_nsgn T n) ["self", "one"] (sp_nsgn T n)
  | 0 => by
    refine T.F_Whole_sign.ok sc_Whole_sign (fun vs H Q E h => ?_) (fun cdv A outer s H vs Q E hr h => ?_)
    · obtain ⟨_, _, _, _, _, _, rfl, _⟩ := h
      rfl
    obtain ⟨o, _, s, x, U, m, rfl, hS, rfl, hs, hb, hm, hl, k⟩ := h
    have k := k H (Same.refl _)
    rw [show sgn (nVal 0 s x) = (toI x).sign from sgn_int (toI x)] at k
    refine ⟨_, (pss_cons (ps_if (pt_cmpR op_lt (pv 1) pe_int (nomark _)) (pss_one (ps_ret (pe_un un_neg pe_int))) pss_nil)
      (pss_cons (ps_if (pt_cmpR op_gt (pv 1) pe_int (nomark _)) (pss_one (ps_ret pe_int)) pss_nil)
      (pss_one (ps_ret pe_int)))), ?_⟩
    refine ⟨_, rfl, rd_c (rd_i0 ⟨_, rfl, ite2 (fun e => ?_) (fun e => ?_)⟩)⟩
    · rw [Int.sign_eq_neg_one_of_neg (of_decide_eq_true (p := toI x < 0) e)] at k
      exact ⟨1, rfl, k⟩
    · refine ⟨_, rfl, rd_c (rd_i0 ⟨_, rfl, ite2 (fun f => ?_) (fun f => ?_)⟩)⟩
      · rw [Int.sign_eq_one_of_pos (of_decide_eq_true (p := 0 < toI x) f)] at k
        exact k
      · have e : ¬ toI x < 0 := fun z => e (decide_eq_true (p := toI x < 0) z)
        have f : ¬ 0 < toI x := fun z => f (decide_eq_true (p := 0 < toI x) z)
        have z : toI x = (0 : Int) := Int.le_antisymm (Int.not_lt.mp f) (Int.not_lt.mp e)
        rw [z] at k
        exact k
  | n + 1 => by
    have cl_N := clN T n
    have M_N_plus := M_nadd T n
    have G_N_plus := tw_nadd (P := P) (w := w) (base := base) T n
    have b_N_plus := b_nadd T n
    have M_N_times := M_nmul T n
    have G_N_times := tw_nmul (P := P) (w := w) (base := base) T n
    have b_N_times := b_nmul T n
    have M_N_scaled := M_nscl T n
    have G_N_scaled := tw_nscl (P := P) (w := w) (base := base) T n
    have b_N_scaled := b_nscl T n
    have M_N_sign := M_nsgn T n
    have G_N_sign := tw_nsgn T n
    have b_N_sign := b_nsgn T n
    refine T.F_Rooted_sign.ok sc_Rooted_sign (fun vs H Q E h => ?_) (fun cdv A outer s H vs Q E hr h => ?_)
    · obtain ⟨_, _, _, _, _, _, rfl, _⟩ := h
      rfl
    obtain ⟨o, va, ⟨s, u⟩, ⟨a, b⟩, U, m, rfl, hS, hx, hs, hb, hm, ⟨hl, hc1, hc2, hc3⟩, k⟩ := h
    have ec : cU (n + 1) U = U + 2 * cU n U + 1 := rfl
    have gv := nSgn (a := a) (b := b) hs
    have fin : ∀ z : Int, sgn (nVal (n + 1) (s, u) (a, b)) = z → ∀ H', Same H H' → Q (.int z) H' := fun z e H' S => e ▸ k H' S
    obtain ⟨px, v1, v2, rfl, hpx, h1, h2⟩ := id hx
    refine ⟨_, (pss_cons (ps_set (i := 2) sc_Rooted_sign.nd rfl (Or.inl rfl) (pe_fld (pv 0) rfl))
      (pss_cons (ps_asg (pv 1) (pg_tup (by rfl) (pgs_cons (pg_name (i := 3) sc_Rooted_sign.nd rfl (Or.inl rfl)) (pgs_cons (pg_name (i := 4) sc_Rooted_sign.nd rfl (Or.inl rfl)) pgs_nil))))
      (pss_cons (ps_set (i := 5) sc_Rooted_sign.nd rfl (Or.inl rfl) (pe_meth (pv 2) cl_N M_N_sign G_N_sign (hr.mono (by first | decide | omega)) b_N_sign .nil pass0 (pa_cons (pv 3) pa_nil)))
      (pss_cons (ps_set (i := 6) sc_Rooted_sign.nd rfl (Or.inl rfl) (pe_op op_mulX (pe_meth (pv 2) cl_N M_N_sign G_N_sign (hr.mono (by first | decide | omega)) b_N_sign .nil pass0 (pa_cons (pv 4) pa_nil)) (pe_meth (pv 2) cl_N M_N_sign G_N_sign (hr.mono (by first | decide | omega)) b_N_sign .nil pass0 (pa_cons (pe_fld (pv 0) rfl) pa_nil))))
      (pss_cons (ps_if (PW.pt (pw_or (pt_cmpR op_eq (pv 6) pe_int (nomark _)) (pw_or1 (pt_cmpR op_eq (pv 5) (pv 6) (nomark _))))) (pss_one (ps_ret (pv 5))) pss_nil)
      (pss_cons (ps_if (pt_cmpR op_eq (pv 5) pe_int (nomark _)) (pss_one (ps_ret (pv 6))) pss_nil)
      (pss_cons (ps_set (i := 7) sc_Rooted_sign.nd rfl (Or.inl rfl) (pe_meth (pv 2) cl_N M_N_times G_N_times (hr.mono (by first | decide | omega)) b_N_times .nil pass0 (pa_cons (pe_fld (pv 0) rfl) (pa_cons (pe_meth (pv 2) cl_N M_N_times G_N_times (hr.mono (by first | decide | omega)) b_N_times .nil pass0 (pa_cons (pv 4) (pa_cons (pv 4) pa_nil))) pa_nil))))
      (pss_cons (ps_set (i := 8) sc_Rooted_sign.nd rfl (Or.inl rfl) (pe_meth (pv 2) cl_N M_N_plus G_N_plus (hr.mono (by first | decide | omega)) b_N_plus .nil pass0 (pa_cons (pe_meth (pv 2) cl_N M_N_times G_N_times (hr.mono (by first | decide | omega)) b_N_times .nil pass0 (pa_cons (pv 3) (pa_cons (pv 3) pa_nil))) (pa_cons (pe_meth (pv 2) cl_N M_N_scaled G_N_scaled (hr.mono (by first | decide | omega)) b_N_scaled .nil pass0 (pa_cons (pv 7) (pa_cons (pe_un un_neg pe_int) pa_nil))) pa_nil))))
      (pss_one (ps_ret (pe_op op_mulX (pv 5) (pe_meth (pv 2) cl_N M_N_sign G_N_sign (hr.mono (by first | decide | omega)) b_N_sign .nil pass0 (pa_cons (pv 8) pa_nil))))))))))))), ?_⟩
    refine rd_below rfl hS fun vB hB => ?_
    -- plain, part = one
    refine ⟨_, rfl, px, _, rfl, SqT.of hpx, rfl, _, _, rfl, _, _, rfl, rfl, ?_⟩
    -- first
    refine ⟨_, rfl, rd_mth hB (by decide +kernel) (by decide +kernel) ⟨_, rfl, _, _, s, _, U, m, rfl, hB, h1, hs.1, hb.1, hm.1, hc2, fun H1 S1 => ?_⟩⟩
    -- second
    refine ⟨_, rfl, rd_mth (hB.same S1) (by decide +kernel) (by decide +kernel) ⟨_, rfl, _, _, s, _, U, m, rfl, hB.same S1, h2.same S1, hs.1, hb.1, hm.2, hc2, fun H2 S2 => ?_⟩⟩
    have S12 := S1.trans S2
    refine ⟨_, rfl, rd_mth (hB.same S12) (by decide +kernel) (by decide +kernel) (rd_under rfl (hS.same S12) fun vu hu => ⟨_, _, s, _, U, U, rfl, hB.same S12, hu, hs.1, hb.1, hb.2, hc3, fun H3 S3 => ?_⟩)⟩
    have S13 := S12.trans S3
    refine rd_mul (bt_sgn _) (bt_sgn _) (by decide) ?_
    refine ⟨_, rfl, rfl, _, rfl, ite2 (fun e => ?_) (fun e => ?_)⟩
    · have e := V.int.inj (of_decide_eq_true e)
      exact iteT ⟨_, rfl, fin _ (gv.trans (if_pos (.inl e))) _ S13⟩
    have e1 : ¬ sgn (nVal n s b) * sgn (nVal n s u) = 0 := fun h => e (decide_eq_true (congrArg V.int h))
    refine ⟨_, rfl, _, rfl, rfl, _, rfl, ite2 (fun e => ?_) (fun e => ?_)⟩
    · have e := V.int.inj (of_decide_eq_true e)
      exact ⟨_, rfl, fin _ (gv.trans (if_pos (.inr e))) _ S13⟩
    have e2 : ¬ sgn (nVal n s a) = sgn (nVal n s b) * sgn (nVal n s u) := fun h => e (decide_eq_true (congrArg V.int h))
    have gv := gv.trans (if_neg fun h => h.elim e1 e2)
    refine ⟨_, rfl, rfl, _, rfl, ite2 (fun e => ?_) (fun e => ?_)⟩
    · have e := V.int.inj (of_decide_eq_true e)
      exact ⟨_, rfl, fin _ (gv.trans (if_pos e)) _ S13⟩
    have e3 : ¬ sgn (nVal n s a) = 0 := fun h => e (decide_eq_true (congrArg V.int h))
    have gv := gv.trans (if_neg e3)
    -- square
    refine ⟨_, rfl, rd_mth (hB.same S13) (by decide +kernel) (by decide +kernel) (rd_under rfl (hS.same S13) fun vu hu => ⟨_, rfl, rd_mth (hB.same S13) (by decide +kernel) (by decide +kernel) ⟨_, rfl, _, rfl, _, _, _, s, _, _, U, m, m, rfl, hB.same S13, h2.same S13, h2.same S13, hb.1, hm.2, hm.2, by omega, fun H4 w4 S4 z4 => ?_⟩⟩)⟩
    have S14 := S13.trans S4
    refine ⟨_, _, _, s, _, _, U, U, _, rfl, hB.same S14, hu.same S4, z4, hb.1, hb.2, nBt_mul n hb.1 hm.2 hm.2, by omega, fun H5 w5 S5 z5 => ?_⟩
    have S15 := S14.trans S5
    have q5 := nBt_mul n hb.1 hb.2 (nBt_mul n hb.1 hm.2 hm.2)
    have q6 := nBt_mul n hb.1 hm.1 hm.1
    -- left
    refine ⟨_, rfl, rd_mth (hB.same S15) (by decide +kernel) (by decide +kernel) ⟨_, rfl, rd_mth (hB.same S15) (by decide +kernel) (by decide +kernel) ⟨_, rfl, _, rfl, _, _, _, s, _, _, U, m, m, rfl, hB.same S15, h1.same S15, h1.same S15, hb.1, hm.1, hm.1, by omega, fun H6 w6 S6 z6 => ?_⟩⟩⟩
    have S16 := S15.trans S6
    refine ⟨_, rfl, rd_mth (hB.same S16) (by decide +kernel) (by decide +kernel) ⟨_, rfl, 1, rfl, _, _, s, _, _, _, 1, rfl, hB.same S16, z5.same S6, q5, bt_lit (by decide), by omega, fun H7 w7 S7 z7 => ?_⟩⟩
    have S17 := S16.trans S7
    refine ⟨_, _, _, s, _, _, rfl, hB.same S17, z6.same S7, z7, fun H8 w8 S8 z8 => ?_⟩
    have S18 := S17.trans S8
    have q8 := nBt_add n (nBt_mono n q6 (k := 2 * m + cU (n + 1) U) (by omega)) (nBt_mono n (nBt_scl n q5 (bt_lit (n := 1) (x := -1) (by decide))) (k := 2 * m + cU (n + 1) U) (by omega))
    refine ⟨_, rfl, _, rfl, rd_mth (hB.same S18) (by decide +kernel) (by decide +kernel) ⟨_, rfl, _, _, s, _, U, _, rfl, hB.same S18, z8, hs.1, hb.1, q8, hc1, fun H9 S9 => ?_⟩⟩
    exact rd_mul (bt_sgn _) (bt_sgn _) (by decide) (fin _ gv _ (S18.trans S9))
end

/-! ### compare, by towers -/
section
open Re
variable {P : Program} {w : World} {K : PySem.W.Frag} {mg : Str → Option Value} {base : Heap}
def sp_cmpG : Sp := fun vs H Q _ => ∃ v1 v2 p1 q1 d1 p2 q2 d2 m, vs = [v1, v2] ∧ RnV H v1 p1 q1 d1 ∧ RnV H v2 p2 q2 d2 ∧ (0 ≤ d1 ∧ Rb m p1 ∧ Rb m q1 ∧ Rb m d1) ∧ (0 ≤ d2 ∧ Rb m p2 ∧ Rb m q2 ∧ Rb m d2) ∧ m ≤ 1000000 ∧
  ∀ H', Same H H' → Q (.int (sgn (rv p1 q1 d1 - rv p2 q2 d2))) H'
theorem den_pos (q : Rat) : (0 : Rat) < (q.den : Rat) := by
  have := q.den_pos
  exact_mod_cast this
theorem sqrt_whole {d : Rat} (hd : 0 ≤ d) : sqrt (rat ((d.num * (d.den : Int) : Int) : Rat)) = rat (d.den : Rat) * sqrt (rat d) := by
  have h1 := sqrt_sq (rat_nonneg.mpr hd)
  have h2 := rat_num d
  refine sqrt_eq (mul_nonneg (rat_nonneg.mpr (by have := den_pos d; grind)) (sqrt_nonneg _)) ?_
  rw [Rat.intCast_mul, ← h2, show ((d.den : Int) : Rat) = (d.den : Rat) from rfl, rat_mul, rat_mul]
  grind
/-- whole numbers for a difference of root numbers -/
theorem cmp_whole (p1 q1 p2 q2 : Rat) {d1 d2 : Rat} (h1 : 0 ≤ d1) (h2 : 0 ≤ d2) :
    sgn (rat (((p1.num * p2.den - p2.num * p1.den) * (q1.den * d1.den) * (q2.den * d2.den) : Int) : Rat) + rat ((q1.num * (p1.den * p2.den) * (q2.den * d2.den) : Int) : Rat) * sqrt (rat ((d1.num * (d1.den : Int) : Int) : Rat)) + rat ((-q2.num * (p1.den * p2.den) * (q1.den * d1.den) : Int) : Rat) * sqrt (rat ((d2.num * (d2.den : Int) : Int) : Rat))) = sgn (rv p1 q1 d1 - rv p2 q2 d2) := by
  rw [sqrt_whole h1, sqrt_whole h2]
  have c1 := den_pos p1
  have c2 := den_pos p2
  have c3 := den_pos q1
  have c4 := den_pos q2
  have c5 := den_pos d1
  have c6 := den_pos d2
  have hc : 0 < rat ((p1.den : Rat) * p2.den * (q1.den * d1.den) * (q2.den * d2.den)) := rat_pos.mpr (by
    exact Rat.mul_pos (Rat.mul_pos (Rat.mul_pos c1 c2) (Rat.mul_pos c3 c5)) (Rat.mul_pos c4 c6))
  rw [← sgn_scale (x := rv p1 q1 d1 - rv p2 q2 d2) hc]
  congr 1
  have e1 := rat_num p1
  have e2 := rat_num p2
  have e3 := rat_num q1
  have e4 := rat_num q2
  have k : ∀ q : Rat, ((q.den : Int) : Rat) = (q.den : Rat) := fun q => rfl
  have a1 : (((p1.num * p2.den - p2.num * p1.den) * (q1.den * d1.den) * (q2.den * d2.den) : Int) : Rat) = (p1.den : Rat) * p2.den * (q1.den * d1.den) * (q2.den * d2.den) * (p1 - p2) := by
    simp only [Rat.intCast_mul, Rat.intCast_sub, k, ← e1, ← e2]; grind
  have a2 : ((q1.num * (p1.den * p2.den) * (q2.den * d2.den) : Int) : Rat) * (d1.den : Rat) = (p1.den : Rat) * p2.den * (q1.den * d1.den) * (q2.den * d2.den) * q1 := by
    simp only [Rat.intCast_mul, k, ← e3]; grind
  have a3 : ((-q2.num * (p1.den * p2.den) * (q1.den * d1.den) : Int) : Rat) * (d2.den : Rat) = (p1.den : Rat) * p2.den * (q1.den * d1.den) * (q2.den * d2.den) * -q2 := by
    simp only [Rat.intCast_mul, Rat.intCast_neg, k, ← e4]; grind
  unfold rv
  rw [← Re.mul_assoc, ← rat_mul, a2, ← Re.mul_assoc, ← rat_mul, a3, a1, rat_mul _ (p1 - p2), rat_mul _ q1, rat_mul _ (-q2), rat_sub p1 p2, rat_neg]
  grind
theorem num_zero {q d : Rat} (h : q.num * d.num = 0) : rat q * sqrt (rat d) = 0 := by
  rcases Int.mul_eq_zero.mp h with h | h
  · rw [Rat.num_eq_zero.mp h, show rat 0 = (0 : Re) from rfl]; grind
  · rw [Rat.num_eq_zero.mp h, show sqrt (rat 0) = 0 from sqrt_eq (by grind) (by show (0 : Re) * 0 = 0; grind)]; grind
theorem gap_sgn (p r : Rat) : (p.num * r.den - r.num * p.den).sign = (p - r).num.sign := by
  have h := sgn_rat (p - r)
  have hc : 0 < rat ((p.den : Rat) * r.den) := rat_pos.mpr (Rat.mul_pos (den_pos p) (den_pos r))
  rw [← h, ← sgn_scale hc, ← rat_mul, ← sgn_int]
  have e1 := rat_num p
  have e2 := rat_num r
  congr 2
  have k : ∀ q : Rat, ((q.den : Int) : Rat) = (q.den : Rat) := fun q => rfl
  simp only [Rat.intCast_mul, Rat.intCast_sub, k, ← e1, ← e2]; grind
theorem okG_compare (T : Tx K mg) : FnOk P w K mg base CX0 5 T.f_compare T.d_compare ["one", "other"] sp_cmpG := by
  have G_Rooted___init__ := ok_Rooted___init__ (P := P) (w := w) (base := base) T
  have G_Rooted1_lifted := ok_Rooted_lifted (P := P) (w := w) (base := base) T 0
  have G_Rooted2_sign := tw_nsgn (P := P) (w := w) (base := base) T 2
  have cl_W := T.cl_Whole
  have M_W_sign := T.M_Whole_sign
  have b_W_sign := T.b_Whole_sign
  have G_W_sign := tw_nsgn (P := P) (w := w) (base := base) T 0
  refine T.F_compare.ok sc_compare (fun vs H Q E h => ?_) (fun cdv A outer s H vs Q E hr h => ?_)
  · obtain ⟨_, _, _, _, _, _, _, _, _, rfl, _⟩ := h
    rfl
  obtain ⟨_, _, p1, q1, d1, p2, q2, d2, m, rfl, ⟨a1, _, _, _, rfl, h1, ⟨ap1, rfl, hp1⟩, ⟨aq1, rfl, hq1⟩, ⟨ad1, rfl, hd1⟩⟩, ⟨a2, _, _, _, rfl, h2, ⟨ap2, rfl, hp2⟩, ⟨aq2, rfl, hq2⟩, ⟨ad2, rfl, hd2⟩⟩, ⟨n1, bp1, bq1, bd1⟩, ⟨n2, bp2, bq2, bd2⟩, hm, k⟩ := h
  refine ⟨_, (pss_cons (ps_asg (pv 0) (pg_tup (by rfl) (pgs_cons (pg_name (i := 2) sc_compare.nd rfl (Or.inl rfl)) (pgs_cons (pg_name (i := 3) sc_compare.nd rfl (Or.inl rfl)) (pgs_cons (pg_name (i := 4) sc_compare.nd rfl (Or.inl rfl)) pgs_nil)))))
      (pss_cons (ps_asg (pv 1) (pg_tup (by rfl) (pgs_cons (pg_name (i := 5) sc_compare.nd rfl (Or.inl rfl)) (pgs_cons (pg_name (i := 6) sc_compare.nd rfl (Or.inl rfl)) (pgs_cons (pg_name (i := 7) sc_compare.nd rfl (Or.inl rfl)) pgs_nil)))))
      (pss_cons (ps_set (i := 8) sc_compare.nd rfl (Or.inl rfl) (pe_op op_sub (pe_op op_mulX (pe_ix ix_tup (pv 2) pe_int (fun _ _ => rfl)) (pe_ix ix_tup (pv 5) pe_int (fun _ _ => rfl))) (pe_op op_mulX (pe_ix ix_tup (pv 5) pe_int (fun _ _ => rfl)) (pe_ix ix_tup (pv 2) pe_int (fun _ _ => rfl)))))
      (pss_cons (ps_if (PW.pt (pw_and (pt_cmpR op_eq (pe_op op_mulX (pe_ix ix_tup (pv 3) pe_int (fun _ _ => rfl)) (pe_ix ix_tup (pv 4) pe_int (fun _ _ => rfl))) pe_int (nomark _)) (pw_and1 (pt_cmpR op_eq (pe_op op_mulX (pe_ix ix_tup (pv 6) pe_int (fun _ _ => rfl)) (pe_ix ix_tup (pv 7) pe_int (fun _ _ => rfl))) pe_int (nomark _))))) (pss_one (ps_ret (pe_meth (pe_makeO T.mk_Whole (by rfl) T.g_Whole) cl_W M_W_sign G_W_sign (hr.mono (by first | decide | omega)) b_W_sign .nil pass0 (pa_cons (pv 8) pa_nil)))) pss_nil)
      (pss_cons (ps_set (i := 9) sc_compare.nd rfl (Or.inl rfl) (pe_op op_mulX (pe_ix ix_tup (pv 2) pe_int (fun _ _ => rfl)) (pe_ix ix_tup (pv 5) pe_int (fun _ _ => rfl))))
      (pss_cons (ps_set (i := 10) sc_compare.nd rfl (Or.inl rfl) (pe_op op_mulX (pe_ix ix_tup (pv 3) pe_int (fun _ _ => rfl)) (pe_ix ix_tup (pv 4) pe_int (fun _ _ => rfl))))
      (pss_cons (ps_set (i := 11) sc_compare.nd rfl (Or.inl rfl) (pe_op op_mulX (pe_ix ix_tup (pv 6) pe_int (fun _ _ => rfl)) (pe_ix ix_tup (pv 7) pe_int (fun _ _ => rfl))))
      (pss_cons (ps_set (i := 12) sc_compare.nd rfl (Or.inl rfl) (pe_make T.mk_Rooted G_Rooted___init__ (hr.mono (by first | decide | omega)) (by rfl) T.g_Rooted T.b_Rooted___init__ .nil pass0 (pa_cons (pe_makeO T.mk_Whole (by rfl) T.g_Whole) (pa_cons (pe_op op_mulX (pe_ix ix_tup (pv 4) pe_int (fun _ _ => rfl)) (pe_ix ix_tup (pv 4) pe_int (fun _ _ => rfl))) pa_nil))))
      (pss_cons (ps_set (i := 13) sc_compare.nd rfl (Or.inl rfl) (pe_make T.mk_Rooted G_Rooted___init__ (hr.mono (by first | decide | omega)) (by rfl) T.g_Rooted T.b_Rooted___init__ .nil pass0 (pa_cons (pv 12) (pa_cons (pe_meth (pv 12) T.cl_Rooted T.M_Rooted_lifted G_Rooted1_lifted (hr.mono (by first | decide | omega)) T.b_Rooted_lifted .nil pass0 (pa_cons (pe_op op_mulX (pe_ix ix_tup (pv 7) pe_int (fun _ _ => rfl)) (pe_ix ix_tup (pv 7) pe_int (fun _ _ => rfl))) pa_nil)) pa_nil))))
      (pss_cons (ps_set (i := 14) sc_compare.nd rfl (Or.inl rfl) (pe_tup (pa_cons (pe_op op_mulX (pe_op op_mulX (pv 8) (pv 10)) (pv 11)) (pa_cons (pe_op op_mulX (pe_op op_mulX (pe_ix ix_tup (pv 3) pe_int (fun _ _ => rfl)) (pv 9)) (pv 11)) pa_nil))))
      (pss_one (ps_ret (pe_meth (pv 13) T.cl_Rooted T.M_Rooted_sign G_Rooted2_sign (hr.mono (by first | decide | omega)) T.b_Rooted_sign .nil pass0 (pa_cons (pe_tup (pa_cons (pv 14) (pa_cons (pe_meth (pv 12) T.cl_Rooted T.M_Rooted_lifted G_Rooted1_lifted (hr.mono (by first | decide | omega)) T.b_Rooted_lifted .nil pass0 (pa_cons (pe_op op_mulX (pe_op op_mulX (pe_un un_neg (pe_ix ix_tup (pv 6) pe_int (fun _ _ => rfl))) (pv 9)) (pv 10)) pa_nil)) pa_nil))) pa_nil)))))))))))))), ?_⟩
  rw [show L2.start nm_compare [V.ref a1, V.ref a2] = [some (.ref a1), some (.ref a2), none, none, none, none, none, none, none, none, none, none, none, none, none] from rfl]
  refine ⟨_, rfl, a1, _, rfl, SqT.of h1, rfl, _, _, rfl, _, _, rfl, _, _, rfl, rfl, ?_⟩
  refine ⟨_, rfl, a2, _, rfl, SqT.of h2, rfl, _, _, rfl, _, _, rfl, _, _, rfl, rfl, ?_⟩
  dsimp only [gName, List.set_cons_succ, List.set_cons_zero]
  -- gap
  refine rd_ixT rfl hp1 rfl (rd_ixT rfl hp2 rfl (rd_mul bp1.1 bp2.2 (by omega) (rd_ixT rfl hp2 rfl (rd_ixT rfl hp1 rfl (rd_mul bp2.1 bp1.2 (by omega) (rd_i0 ?_))))))
  dsimp only [gName, List.set_cons_succ, List.set_cons_zero]
  have bgap : Bt (2 * m + 1) (p1.num * p2.den - p2.num * p1.den) := (Bt.sub (bp1.1.mul bp2.2) (bp2.1.mul bp1.2)).mono (by omega)
  have bmine : Bt (2 * m) ((q1.den : Int) * d1.den) := (bq1.2.mul bd1.2).mono (by omega)
  have byours : Bt (2 * m) ((q2.den : Int) * d2.den) := (bq2.2.mul bd2.2).mono (by omega)
  have bshared : Bt (2 * m) ((p1.den : Int) * p2.den) := (bp1.2.mul bp2.2).mono (by omega)
  -- the test
  have ret : q1.num * d1.num = 0 → q2.num * d2.num = 0 → sgn (rv p1 q1 d1 - rv p2 q2 d2) = (p1.num * p2.den - p2.num * p1.den).sign := fun z1 z2 => by
    rw [gap_sgn, ← sgn_rat, rat_sub]
    unfold rv
    rw [num_zero z1, num_zero z2]
    congr 1; grind
  refine rd_ixT rfl hq1 rfl (rd_ixT rfl hd1 rfl (rd_mul bq1.1 bd1.1 (by omega) (rd_c (rd_eqi ⟨_, rfl, ?_⟩))))
  refine (fun rest => ite2 (fun e1 => ?gA) (fun e1 => iteF rest)) ?gR
  case gA =>
    refine rd_ixT rfl hq2 rfl (rd_ixT rfl hd2 rfl (rd_mul bq2.1 bd2.1 (by omega) (rd_c (rd_eqi ⟨_, rfl, ?_⟩))))
    refine ite2 (fun e2 => ?_) (fun e2 => rest)
    have e1 := of_decide_eq_true e1
    have e2 := of_decide_eq_true e2
    intro x dx nx ndx ne
    refine rd_mth (T := T) (n := 0) (s := ()) ⟨x, dx, rfl, upd_same⟩ (by decide +kernel) (by decide +kernel) ?_
    have S1 : Same H (upd (upd H dx (.own x)) x (.ins T.c_Whole dx [])) := fun b o e => by
      rw [upd_ne (ne_of_none e nx), upd_ne (ne_of_none e ndx)]
      exact e
    refine ⟨_, rfl, _, _, (), (p1.num * p2.den - p2.num * p1.den : Int), 0, _, rfl, ⟨x, dx, rfl, upd_same⟩, rfl, trivial, trivial, bgap, trivial, fun H2 S2 => ?_⟩
    have := k H2 (S1.trans S2)
    rw [ret e1 e2, ← sgn_int] at this
    exact this
  case gR =>
    clear ret
    -- shared, mine, yours
    refine rd_ixT rfl hp1 rfl (rd_ixT rfl hp2 rfl (rd_mul bp1.2 bp2.2 (by omega) ?_))
    refine rd_ixT rfl hq1 rfl (rd_ixT rfl hd1 rfl (rd_mul bq1.2 bd1.2 (by omega) ?_))
    refine rd_ixT rfl hq2 rfl (rd_ixT rfl hd2 rfl (rd_mul bq2.2 bd2.2 (by omega) ?_))
    dsimp only [gName, List.set_cons_succ, List.set_cons_zero]
    -- first
    intro x dx nx ndx ne
    have S1 : Same H (upd (upd H dx (.own x)) x (.ins T.c_Whole dx [])) := fun b o e => by
      rw [upd_ne (ne_of_none e nx), upd_ne (ne_of_none e ndx)]
      exact e
    generalize eH1 : upd (upd H dx (.own x)) x (.ins T.c_Whole dx []) = H1 at S1 ⊢
    have hW : StV T 0 H1 (.ref x) () := ⟨x, dx, rfl, by rw [← eH1]; exact upd_same⟩
    refine rd_cons (rd_ixT rfl (S1 _ _ hd1) rfl (rd_ixT rfl (S1 _ _ hd1) rfl (rd_mul bd1.1 bd1.2 (by omega) ?_)))
    intro x2 dx2 nx2 ndx2 ne2
    refine ⟨x2, dx2, _, _, rfl, upd_same, fun H2 f2 o2 => ⟨rfl, ?_⟩⟩
    have S12 : Same H1 H2 := fun b o e => o2 b o (by rw [upd_ne (ne_of_none e nx2), upd_ne (ne_of_none e ndx2)]; exact e) (ne_of_none e nx2)
    have S2 := S1.trans S12
    have hF : StV T 1 H2 (.ref x2) ((), (d1.num * d1.den : Int)) := ⟨x2, dx2, _, _, rfl, f2, hW.same S12, rfl⟩
    -- second
    dsimp only [gName, List.set_cons_succ, List.set_cons_zero]
    refine ⟨_, rfl, ?_⟩
    refine rd_cons (rd_tm ⟨_, rfl, rd_mth (T := T) (n := 1) hF (by decide +kernel) (by decide +kernel) ?_⟩)
    refine rd_cons (rd_ixT rfl (S2 _ _ hd2) rfl (rd_ixT rfl (S2 _ _ hd2) rfl (rd_mul bd2.1 bd2.2 (by omega) ?_)))
    refine ⟨_, _, _, (d2.num * d2.den : Int), rfl, hF, rfl, fun H3 v3 S3 z3 => ?_⟩
    have S23 := S2.trans S3
    intro x4 dx4 nx4 ndx4 ne4
    refine ⟨x4, dx4, _, _, rfl, upd_same, fun H4 f4 o4 => ⟨rfl, ?_⟩⟩
    have S34 : Same H3 H4 := fun b o e => o4 b o (by rw [upd_ne (ne_of_none e nx4), upd_ne (ne_of_none e ndx4)]; exact e) (ne_of_none e nx4)
    have S4 := S23.trans S34
    have hF4 := hF.same (S3.trans S34)
    have hG : StV T 2 H4 (.ref x4) (((), (d1.num * d1.den : Int)), ((d2.num * d2.den : Int), (0 : Int))) := ⟨x4, dx4, _, _, rfl, f4, hF4, z3.same S34⟩
    dsimp only [gName, List.set_cons_succ, List.set_cons_zero]
    -- sum_of_two
    refine ⟨_, rfl, _, rfl, rd_mul bgap bmine (by omega) ⟨_, rfl, rd_mul (bgap.mul bmine) byours (by omega) ?_⟩⟩
    refine rd_cons (rd_ixT rfl (S4 _ _ hq1) rfl ⟨_, rfl, rd_mul bq1.1 bshared (by omega) ⟨_, rfl, rd_mul (bq1.1.mul bshared) byours (by omega) ?_⟩⟩)
    refine ⟨sz_n (by decide : 2 ≤ 1000), fun t5 ht5 => ?_⟩
    have S5 := S4.trans (same_upd ht5 (o := .tup [.int ((p1.num * p2.den - p2.num * p1.den) * (q1.den * d1.den) * (q2.den * d2.den)), .int (q1.num * (p1.den * p2.den) * (q2.den * d2.den))]))
    have hF5 := hF4.same (same_upd ht5 (o := .tup [.int ((p1.num * p2.den - p2.num * p1.den) * (q1.den * d1.den) * (q2.den * d2.den)), .int (q1.num * (p1.den * p2.den) * (q2.den * d2.den))]))
    have hG5 := hG.same (same_upd ht5 (o := .tup [.int ((p1.num * p2.den - p2.num * p1.den) * (q1.den * d1.den) * (q2.den * d2.den)), .int (q1.num * (p1.den * p2.den) * (q2.den * d2.den))]))
    have z5 : NumV 1 (upd H4 t5 (.tup [.int ((p1.num * p2.den - p2.num * p1.den) * (q1.den * d1.den) * (q2.den * d2.den)), .int (q1.num * (p1.den * p2.den) * (q2.den * d2.den))])) (.ref t5) (((p1.num * p2.den - p2.num * p1.den) * (q1.den * d1.den) * (q2.den * d2.den) : Int), (q1.num * (p1.den * p2.den) * (q2.den * d2.den) : Int)) := ⟨t5, _, _, rfl, upd_same, rfl, rfl⟩
    generalize upd H4 t5 (.tup [.int ((p1.num * p2.den - p2.num * p1.den) * (q1.den * d1.den) * (q2.den * d2.den)), .int (q1.num * (p1.den * p2.den) * (q2.den * d2.den))]) = H5 at S5 hF5 hG5 z5 ⊢
    dsimp only [gName, List.set_cons_succ, List.set_cons_zero]
    -- the sign
    refine ⟨_, rfl, rd_mth (T := T) (n := 2) hG5 (by decide +kernel) (by decide +kernel) ?_⟩
    refine ⟨_, rfl, ?_⟩
    refine rd_cons (rd_tm ?_)
    refine ⟨_, rfl, rd_mth (T := T) (n := 1) hF5 (by decide +kernel) (by decide +kernel) ?_⟩
    refine rd_cons (rd_ixT rfl (S5 _ _ hq2) rfl ⟨_, rfl, ⟨_, rfl, rd_mul bq2.1.neg bshared (by omega) ⟨_, rfl, rd_mul (bq2.1.neg.mul bshared) bmine (by omega) ?_⟩⟩⟩)
    refine ⟨_, _, _, (-q2.num * (p1.den * p2.den) * (q1.den * d1.den) : Int), rfl, hF5, rfl, fun H6 v6 S6 z6 => ?_⟩
    refine ⟨sz_n (by decide : 2 ≤ 1000), fun t7 ht7 => ?_⟩
    have z7 := num_new ht7 (z5.same S6) z6
    have S67 := S6.trans (same_upd ht7 (o := .tup [.ref t5, v6]))
    refine ⟨_, _, _, _, 2 * m, 6 * m + 1, rfl, hG5.same S67, z7, ?_, ?_, ?_, ?_, fun H8 S8 => ?_⟩
    · refine ⟨⟨trivial, ?_⟩, ?_⟩
      · exact rat_nonneg.mpr (by
          have := Rat.num_nonneg.mpr n1
          exact_mod_cast Int.mul_nonneg this (Int.natCast_nonneg _))
      · show 0 ≤ rat (((d2.num * d2.den : Int) : Int) : Rat) + rat (((0 : Int)) : Rat) * sqrt (rat ((d1.num * d1.den : Int) : Rat))
        rw [show rat (((0 : Int)) : Rat) = (0 : Re) from rfl]
        have := rat_nonneg.mpr (show (0 : Rat) ≤ ((d2.num * d2.den : Int) : Rat) by
          have := Rat.num_nonneg.mpr n2
          exact_mod_cast Int.mul_nonneg this (Int.natCast_nonneg _))
        grind
    · exact ⟨⟨trivial, (bd1.1.mul bd1.2).mono (by omega)⟩, (bd2.1.mul bd2.2).mono (by omega), bt_lit (Nat.pow_pos (by decide))⟩
    · exact ⟨⟨((bgap.mul bmine).mul byours).mono (by omega), ((bq1.1.mul bshared).mul byours).mono (by omega)⟩, ((bq2.1.neg.mul bshared).mul bmine).mono (by omega), bt_lit (Nat.pow_pos (by decide))⟩
    · simp only [sC, cU, and_true]; omega
    · have := k H8 ((S5.trans S67).trans S8)
      rw [← cmp_whole p1 q1 p2 q2 n1 n2] at this
      refine Eq.mp (congrArg (fun z => Q (V.int (sgn z)) H8) ?_) this
      show _ = (rat _ + rat _ * sqrt (rat _)) + (rat _ + rat (((0 : Int)) : Rat) * sqrt (rat _)) * sqrt (rat _ + rat (((0 : Int)) : Rat) * sqrt (rat _))
      rw [show rat (((0 : Int)) : Rat) = (0 : Re) from rfl]
      simp only [show ∀ z : Re, 0 * z = 0 by intro z; grind, show ∀ z : Re, z + 0 = z by intro z; grind]
theorem ok_compare (T : Tx K mg) : FnOk P w K mg base CX0 5 T.f_compare T.d_compare ["one", "other"] sp_cmp := (okG_compare T).imp fun vs H Q E h => by
  obtain ⟨v1, v2, p1, q1, d1, p2, q2, d2, e, r1, r2, b1, b2, k⟩ := h
  exact ⟨v1, v2, p1, q1, d1, p2, q2, d2, 300, e, r1, r2, b1, b2, by decide, k⟩
end

section
open Re
variable {P : Program} {w : World} {K : PySem.W.Frag} {mg : Str → Option Value} {base : Heap}
def sp_number (K : PySem.W.Frag) : Sp := fun vs H Q _ => ∃ (d l s : Addr) (ns : List Int) (c : Nat), vs = [.ref d] ∧ Dk K H d l s ns c ∧ c + 60 < 2 ^ 40 ∧
  ∀ H' v p q e, Keep d l H H' → Dk K H' d l s ns (c + 40) → RnV H' v p q e → RnB 20 20 20 p q e → Q v H'
theorem ok__law_number (T : Tx K mg) : FnOk P w K mg base CX0 6 T.f__law_number T.d__law_number ["_law_deck_here"] (sp_number K) := by
  have G__law_figures := ok__law_figures (P := P) (w := w) (base := base) T
  have G__law_fraction := ok__law_fraction (P := P) (w := w) (base := base) T
  have G__law_share := ok__law_share (P := P) (w := w) (base := base) T
  have G__law_take := ok__law_take (P := P) (w := w) (base := base) T
  have G__law_times := ok__law_times (P := P) (w := w) (base := base) T
  refine T.F__law_number.ok sc__law_number (fun vs H Q E h => ?_) (fun cdv A outer s H vs Q E hr h => ?_)
  · obtain ⟨_, _, _, _, _, rfl, _⟩ := h
    rfl
  · obtain ⟨d, l, s, ns, c, rfl, hD, hc, q⟩ := h
    refine ⟨_, (pss_cons (ps_set (i := 1) sc__law_number.nd rfl (Or.inl rfl) (pe_call G__law_fraction (hr.mono (by first | decide | omega)) (by rfl) T.g__law_fraction T.F__law_fraction.kp T.b__law_fraction .nil pass0 (pa_cons (pv 0) pa_nil)))
      (pss_cons (ps_set (i := 2) sc__law_number.nd rfl (Or.inl rfl) (pe_call G__law_fraction (hr.mono (by first | decide | omega)) (by rfl) T.g__law_fraction T.F__law_fraction.kp T.b__law_fraction .nil pass0 (pa_cons (pv 0) pa_nil)))
      (pss_cons (ps_set (i := 3) sc__law_number.nd rfl (Or.inl rfl) (pe_call G__law_take (hr.mono (by first | decide | omega)) (by rfl) T.g__law_take T.F__law_take.kp T.b__law_take .nil pass0 (pa_cons (pv 0) (pa_cons pe_int pa_nil))))
      (pss_cons (ps_if (pt_cmpR op_eq (pv 3) pe_int (nomark _)) (pss_one (ps_ret (pe_tup (pa_cons (pv 1) (pa_cons (pe_tup (pa_cons pe_int (pa_cons pe_int pa_nil))) (pa_cons (pe_tup (pa_cons pe_int (pa_cons pe_int pa_nil))) pa_nil)))))) pss_nil)
      (pss_cons (ps_if (pt_cmpR op_eq (pv 3) pe_int (nomark _)) (pss_cons (ps_set (i := 4) sc__law_number.nd rfl (Or.inl rfl) (pe_call G__law_share (hr.mono (by first | decide | omega)) (by rfl) T.g__law_share T.F__law_share.kp T.b__law_share .nil pass0 (pa_cons (pe_call G__law_take (hr.mono (by first | decide | omega)) (by rfl) T.g__law_take T.F__law_take.kp T.b__law_take .nil pass0 (pa_cons (pv 0) (pa_cons pe_int pa_nil))) (pa_cons (pe_op op_add pe_int (pe_call G__law_take (hr.mono (by first | decide | omega)) (by rfl) T.g__law_take T.F__law_take.kp T.b__law_take .nil pass0 (pa_cons (pv 0) (pa_cons pe_int pa_nil)))) pa_nil))))
      (pss_one (ps_ret (pe_tup (pa_cons (pv 1) (pa_cons (pv 2) (pa_cons (pe_call G__law_times (hr.mono (by first | decide | omega)) (by rfl) T.g__law_times T.F__law_times.kp T.b__law_times .nil pass0 (pa_cons (pv 4) (pa_cons (pv 4) pa_nil))) pa_nil))))))) pss_nil)
      (pss_cons (ps_set (i := 5) sc__law_number.nd rfl (Or.inl rfl) (pe_ix ix_list (pe_lst (pa_cons (pe_call G__law_take (hr.mono (by first | decide | omega)) (by rfl) T.g__law_take T.F__law_take.kp T.b__law_take .nil pass0 (pa_cons (pv 0) (pa_cons pe_int pa_nil))) (pa_cons (pe_call G__law_figures (hr.mono (by first | decide | omega)) (by rfl) T.g__law_figures T.F__law_figures.kp T.b__law_figures .nil pass0 (pa_cons (pv 0) pa_nil)) pa_nil))) (pe_call G__law_take (hr.mono (by first | decide | omega)) (by rfl) T.g__law_take T.F__law_take.kp T.b__law_take .nil pass0 (pa_cons (pv 0) (pa_cons pe_int pa_nil))) (fun _ _ => rfl)))
      (pss_one (ps_ret (pe_tup (pa_cons (pv 1) (pa_cons (pv 2) (pa_cons (pe_call G__law_share (hr.mono (by first | decide | omega)) (by rfl) T.g__law_share T.F__law_share.kp T.b__law_share .nil pass0 (pa_cons (pv 5) (pa_cons (pe_callB (call_max2 rfl) (by rfl) T.m_max (by decide +kernel) (pa_cons pe_int (pa_cons (pe_ix ix_list (pe_lst (pa_cons pe_int (pa_cons (pe_call G__law_figures (hr.mono (by first | decide | omega)) (by rfl) T.g__law_figures T.F__law_figures.kp T.b__law_figures .nil pass0 (pa_cons (pv 0) pa_nil)) pa_nil))) (pe_call G__law_take (hr.mono (by first | decide | omega)) (by rfl) T.g__law_take T.F__law_take.kp T.b__law_take .nil pass0 (pa_cons (pv 0) (pa_cons pe_int pa_nil))) (fun _ _ => rfl)) pa_nil))) pa_nil))) pa_nil)))))))))))), ?_⟩
    refine ⟨.ref d, rfl, d, l, s, ns, c, rfl, hD, by omega, fun H1 v1 p k1 D1 f1 b1 => ?_⟩
    refine ⟨.ref d, rfl, d, l, s, ns, c + 8, rfl, D1, by omega, fun H2 v2 r k2 D2 f2 b2 => ?_⟩
    refine ⟨.ref d, rfl, d, l, s, ns, c + 8 + 8, 5, rfl, D2, by omega, by decide, by decide, fun H3 k k3 D3 _ _ => ?_⟩
    have K3 := k1.trans (k2.trans k3)
    have g1 := k3.fr D2 (k2.fr D1 f1)
    have g2 := k3.fr D2 f2
    refine ⟨.int k, rfl, rfl, _, rfl, ite2 (fun _ => ?_) (fun _ => ?_)⟩
    · refine ⟨_, rfl, sz_n (by decide : 2 ≤ 1000), fun t1 m1 => ⟨sz_n (by decide : 2 ≤ 1000), fun t2 m2 => ⟨sz_n (by decide : 3 ≤ 1000), fun t3 m3 => ?_⟩⟩⟩
      have e1 := same_upd (o := .tup [.int 0, .int 1]) m1
      have e2 := same_upd (o := .tup [.int 0, .int 1]) m2
      have e3 := same_upd (o := .tup [v1, .ref t1, .ref t2]) m3
      have N := e1.trans (e2.trans e3)
      refine q _ _ p 0 0 (K3.trans (same_keep N)) ((D3.same N).mono (by omega)) ⟨t3, _, _, _, rfl, upd_same, g1.same N, FrV.same (e2.trans e3) (frv_new rfl rfl), FrV.same e3 (frv_new rfl rfl)⟩ ⟨by decide, b1, ?_, ?_⟩
      · exact ⟨bt_lit (by decide), bt_lit (by decide)⟩
      · exact ⟨bt_lit (by decide), bt_lit (by decide)⟩
    · refine ⟨.int k, rfl, rfl, _, rfl, ite2 (fun _ => ?_) (fun _ => ?_)⟩
      · refine ⟨.ref d, rfl, d, l, s, ns, _, 999, rfl, D3, by omega, by decide, by decide, fun H4 x k4 D4 x0 x1 => ?_⟩
        refine ⟨.ref d, rfl, d, l, s, ns, _, 900, rfl, D4, by omega, by decide, by decide, fun H5 y k5 D5 y0 y1 => ⟨_, _, rfl, rfl, x, 1 + y, rfl, by omega, bt_small (by omega), fun H6 v6 s6 f6 => ?_⟩⟩
        have b6 : Rb 10 (Rat.divInt x (1 + y)) := rb_div (by omega) (bt_lit (by omega)) (bt_lit (by omega))
        refine ⟨_, rfl, _, rfl, _, rfl, _, rfl, v6, v6, _, _, rfl, f6, f6, b6.mono (by decide), b6.mono (by decide), trivial, fun H7 v7 s7 f7 => ⟨sz_n (by decide : 3 ≤ 1000), fun t m => ?_⟩⟩
        have e1 := same_upd (o := .tup [v1, v2, v7]) m
        have N := s6.trans (s7.trans e1)
        refine q _ _ p r _ (K3.trans (k4.trans (k5.trans (same_keep N)))) ((D5.same N).mono (by omega)) ⟨t, _, _, _, rfl, upd_same, (k5.fr D4 (k4.fr D3 g1)).same N, (k5.fr D4 (k4.fr D3 g2)).same N, f7.same e1⟩ ⟨sq_nn _, b1, b2, b6.mul b6⟩
      · refine ⟨.ref d, rfl, d, l, s, ns, _, 30, rfl, D3, by omega, by decide, by decide, fun H4 x k4 D4 x0 x1 => ?_⟩
        refine ⟨.ref d, rfl, d, l, s, ns, _, rfl, D4, by omega, fun H5 y k5 D5 y0 y1 => ⟨sz_n (by decide : 2 ≤ 1000), fun g ng => ?_⟩⟩
        have ag := D5.apart ng
        refine ⟨.ref d, rfl, d, l, s, ns, _, 2, rfl, D5.new ng, by omega, by decide, by decide, fun H6 j k6 D6 j0 j1 => ?_⟩
        have hg := k6 g _ upd_same ag.1 ag.2.1
        obtain ⟨t, ht, t0, t1⟩ : ∃ t : Int, atI [V.int x, V.int y] j = some (.int t) ∧ 0 ≤ t ∧ t ≤ 999999 := by
          have hj : j = 0 ∨ j = 1 := by omega
          rcases hj with rfl | rfl
          · exact ⟨x, rfl, x0, by omega⟩
          · exact ⟨y, rfl, y0, y1⟩
        refine ⟨g, _, j, .int t, rfl, rfl, SqL.of hg, ht, ?_⟩
        refine ⟨_, rfl, _, rfl, _, rfl, .ref d, rfl, d, l, s, ns, _, rfl, D6, by omega, fun H7 z k7 D7 z0 z1 => ⟨sz_n (by decide : 2 ≤ 1000), fun gg ng2 => ?_⟩⟩
        have ag2 := D7.apart ng2
        refine ⟨.ref d, rfl, d, l, s, ns, _, 2, rfl, D7.new ng2, by omega, by decide, by decide, fun H8 i k8 D8 i0 i1 => ?_⟩
        have hg2 := k8 gg _ upd_same ag2.1 ag2.2.1
        obtain ⟨u, hu, u0, u1⟩ : ∃ u : Int, atI [V.int 1, V.int z] i = some (.int u) ∧ 0 ≤ u ∧ u ≤ 999999 := by
          have hi : i = 0 ∨ i = 1 := by omega
          rcases hi with rfl | rfl
          · exact ⟨1, rfl, by decide, by decide⟩
          · exact ⟨z, rfl, z0, z1⟩
        refine ⟨gg, _, i, .int u, rfl, rfl, SqL.of hg2, hu, 1, u, rfl, ?_⟩
        have hm : 1 ≤ (if u > 1 then u else 1) ∧ (if u > 1 then u else 1) ≤ 999999 := by split <;> omega
        generalize (if u > 1 then u else 1) = bot at hm
        refine ⟨t, bot, rfl, by omega, bt_small (by omega), fun H9 v9 s9 f9 => ⟨sz_n (by decide : 3 ≤ 1000), fun t3 m3 => ?_⟩⟩
        have e1 := same_upd (o := .tup [v1, v2, v9]) m3
        have N := s9.trans e1
        have M := k4.trans (k5.trans ((keep_new ng).trans (k6.trans (k7.trans ((keep_new ng2).trans k8)))))
        refine q _ _ p r _ (K3.trans (M.trans (same_keep N))) ((D8.same N).mono (by omega)) ⟨t3, _, _, _, rfl, upd_same, (M.fr D3 g1).same N, (M.fr D3 g2).same N, f9.same e1⟩ ⟨div_nonneg t0 (by omega), b1, b2, rb_div (by omega) (bt_lit (by omega)) (bt_lit (by omega))⟩
end

section
open Re
variable {P : Program} {w : World} {K : PySem.W.Frag} {mg : Str → Option Value} {base : Heap}
/-! ### how many are less -/
open Classical in
noncomputable def less (y : Re) : List Re → Nat
  | [] => 0
  | x :: r => (if x < y then 1 else 0) + less y r
theorem less_le {y z : Re} (h : y ≤ z) : ∀ l : List Re, less y l ≤ less z l
  | [] => Nat.le_refl _
  | x :: r => by
    have ih := less_le h r
    unfold less
    by_cases q : x < y
    · rw [if_pos q, if_pos (show x < z by grind)]
      omega
    · rw [if_neg q]
      omega
theorem less_lt {y z : Re} (h : y < z) : ∀ {l : List Re}, y ∈ l → less y l < less z l
  | x :: r, m => by
    unfold less
    rcases List.mem_cons.mp m with e | m
    · subst e
      have := less_le (Std.le_of_lt h) r
      rw [if_neg (lt_irrefl _), if_pos h]
      omega
    · have ih := less_lt h m
      by_cases q : x < y
      · rw [if_pos q, if_pos (show x < z by grind)]
        omega
      · rw [if_neg q]
        omega
theorem less_sgn {x y : Re} {l : List Re} (hx : x ∈ l) (hy : y ∈ l) : sgn (x - y) = (if decide ((less y l : Int) < (less x l : Int)) = true then 1 else 0) - (if decide ((less x l : Int) < (less y l : Int)) = true then (1 : Int) else 0) := by
  rcases lt_tri x y with h | h | h
  · have := less_lt h hx
    rw [sgn_neg (by grind), if_neg (fun z => by have := of_decide_eq_true z; omega), if_pos (decide_eq_true (by omega))]
    rfl
  · subst h
    rw [show x - x = 0 by grind, sgn_zero, if_neg (fun z => by have := of_decide_eq_true z; omega)]
    rfl
  · have := less_lt h hy
    rw [sgn_pos (by grind), if_pos (decide_eq_true (by omega)), if_neg (fun z => by have := of_decide_eq_true z; omega)]
    rfl
open Classical in
theorem less_snoc (y x : Re) : ∀ l : List Re, less y (l ++ [x]) = less y l + (if sgn (x - y) < 0 then 1 else 0)
  | [] => by
    show (if x < y then 1 else 0) + 0 = 0 + _
    rcases sgn_cases (x - y) with ⟨h, e⟩ | ⟨h, e⟩ | ⟨h, e⟩
    · rw [e, if_neg (by grind), if_neg (by decide)]
    · rw [e, if_neg (by grind), if_neg (by decide)]
    · rw [e, if_pos (by grind), if_pos (by decide)]
  | z :: r => by
    show (if z < y then 1 else 0) + less y (r ++ [x]) = (if z < y then 1 else 0) + less y r + _
    rw [less_snoc y x r]
    omega
def sp_moved : Sp := fun vs H Q _ => ∃ v vm vz p q e m z, vs = [v, vm, vz] ∧ RnV H v p q e ∧ FrV H vm m ∧ FrV H vz z ∧ RnB 40 40 40 p q e ∧ Rb 20 m ∧ Rb 20 z ∧ ∀ H' v', Same H H' → RnV H' v' (p * z + m) (q * z) e → Q v' H'
theorem ok__law_moved (T : Tx K mg) : FnOk P w K mg base CX0 4 T.f__law_moved T.d__law_moved ["_law_number_here", "_law_more", "_law_size"] sp_moved := by
  have G__law_plus := ok__law_plus (P := P) (w := w) (base := base) T
  have G__law_times := ok__law_times (P := P) (w := w) (base := base) T
  refine T.F__law_moved.ok sc__law_moved (fun vs H Q E h => ?_) (fun cdv A outer s H vs Q E hr h => ?_)
  · obtain ⟨_, _, _, _, _, _, _, _, rfl, _⟩ := h
    rfl
  · obtain ⟨_, vm, vz, p, r, e, m, z, rfl, ⟨a, x, y, u, rfl, ha, hx, hy, hu⟩, fm, fz, ⟨e0, bp, br, be⟩, bm, bz, q⟩ := h
    refine ⟨_, (pss_cons (ps_asg (pv 0) (pg_tup (by rfl) (pgs_cons (pg_name (i := 3) sc__law_moved.nd rfl (Or.inl rfl)) (pgs_cons (pg_name (i := 4) sc__law_moved.nd rfl (Or.inl rfl)) (pgs_cons (pg_name (i := 5) sc__law_moved.nd rfl (Or.inl rfl)) pgs_nil)))))
      (pss_one (ps_ret (pe_tup (pa_cons (pe_call G__law_plus (hr.mono (by first | decide | omega)) (by rfl) T.g__law_plus T.F__law_plus.kp T.b__law_plus .nil pass0 (pa_cons (pe_call G__law_times (hr.mono (by first | decide | omega)) (by rfl) T.g__law_times T.F__law_times.kp T.b__law_times .nil pass0 (pa_cons (pv 3) (pa_cons (pv 2) pa_nil))) (pa_cons (pv 1) pa_nil))) (pa_cons (pe_call G__law_times (hr.mono (by first | decide | omega)) (by rfl) T.g__law_times T.F__law_times.kp T.b__law_times .nil pass0 (pa_cons (pv 4) (pa_cons (pv 2) pa_nil))) (pa_cons (pv 5) pa_nil))))))), ?_⟩
    refine ⟨_, rfl, a, _, rfl, SqT.of ha, rfl, _, _, rfl, _, _, rfl, _, _, rfl, rfl, ?_⟩
    refine ⟨_, rfl, _, rfl, x, vz, p, z, rfl, hx, fz, bp.mono (by decide), bz.mono (by decide), trivial, fun H1 v1 s1 f1 => ?_⟩
    refine ⟨_, rfl, v1, vm, _, m, rfl, f1, fm.same s1, (bp.mul bz).mono (by decide), bm.mono (by decide), trivial, fun H2 v2 s2 f2 => ?_⟩
    have S2 := s1.trans s2
    refine ⟨_, rfl, _, rfl, y, vz, r, z, rfl, hy.same S2, fz.same S2, br.mono (by decide), bz.mono (by decide), trivial, fun H3 v3 s3 f3 => ⟨_, rfl, sz_n (by decide : 3 ≤ 1000), fun t mt => ?_⟩⟩
    have e1 := same_upd (o := .tup [v2, v3, u]) mt
    exact q _ _ (S2.trans (s3.trans e1)) ⟨t, _, _, _, rfl, upd_same, f2.same (s3.trans e1), f3.same e1, hu.same (S2.trans (s3.trans e1))⟩
theorem moved_val {p q e m z : Rat} : rv (p * z + m) (q * z) e = rat z * rv p q e + rat m := by
  unfold rv
  rw [rat_add, rat_mul, rat_mul]
  grind
def sp_written (K : PySem.W.Frag) : Sp := fun vs H Q _ => ∃ (d l s : Addr) (ns : List Int) (c : Nat) (v : V) (p q e : Rat), vs = [.ref d, v] ∧ Dk K H d l s ns c ∧ c + 80 < 2 ^ 40 ∧ RnV H v p q e ∧ RnB 20 20 20 p q e ∧
  ∀ H' v' q' e', Keep d l H H' → Dk K H' d l s ns (c + 2) → RnV H' v' p q' e' → RnB 40 40 40 p q' e' → rv p q' e' = rv p q e → Q v' H'
theorem ok__law_same_written (T : Tx K mg) : FnOk P w K mg base CX0 4 T.f__law_same_written T.d__law_same_written ["_law_deck_here", "_law_number_here"] (sp_written K) := by
  have G__law_share := ok__law_share (P := P) (w := w) (base := base) T
  have G__law_take := ok__law_take (P := P) (w := w) (base := base) T
  have G__law_times := ok__law_times (P := P) (w := w) (base := base) T
  refine T.F__law_same_written.ok sc__law_same_written (fun vs H Q E h => ?_) (fun cdv A outer s H vs Q E hr h => ?_)
  · obtain ⟨_, _, _, _, _, _, _, _, _, rfl, _⟩ := h
    rfl
  · obtain ⟨d, l, s, ns, c, v, p, r, e, rfl, hD, hc, rn, bn, q⟩ := h
    refine ⟨_, (pss_cons (ps_asg (pv 1) (pg_tup (by rfl) (pgs_cons (pg_name (i := 2) sc__law_same_written.nd rfl (Or.inl rfl)) (pgs_cons (pg_name (i := 3) sc__law_same_written.nd rfl (Or.inl rfl)) (pgs_cons (pg_name (i := 4) sc__law_same_written.nd rfl (Or.inl rfl)) pgs_nil)))))
      (pss_cons (ps_set (i := 5) sc__law_same_written.nd rfl (Or.inl rfl) (pe_call G__law_share (hr.mono (by first | decide | omega)) (by rfl) T.g__law_share T.F__law_share.kp T.b__law_share .nil pass0 (pa_cons (pe_op op_add pe_int (pe_call G__law_take (hr.mono (by first | decide | omega)) (by rfl) T.g__law_take T.F__law_take.kp T.b__law_take .nil pass0 (pa_cons (pv 0) (pa_cons pe_int pa_nil)))) (pa_cons (pe_op op_add pe_int (pe_call G__law_take (hr.mono (by first | decide | omega)) (by rfl) T.g__law_take T.F__law_take.kp T.b__law_take .nil pass0 (pa_cons (pv 0) (pa_cons pe_int pa_nil)))) pa_nil))))
      (pss_one (ps_ret (pe_tup (pa_cons (pv 2) (pa_cons (pe_call G__law_times (hr.mono (by first | decide | omega)) (by rfl) T.g__law_times T.F__law_times.kp T.b__law_times .nil pass0 (pa_cons (pv 3) (pa_cons (pe_tup (pa_cons (pe_ix ix_tup (pv 5) pe_int (fun _ _ => rfl)) (pa_cons (pe_ix ix_tup (pv 5) pe_int (fun _ _ => rfl)) pa_nil))) pa_nil))) (pa_cons (pe_call G__law_times (hr.mono (by first | decide | omega)) (by rfl) T.g__law_times T.F__law_times.kp T.b__law_times .nil pass0 (pa_cons (pv 4) (pa_cons (pe_call G__law_times (hr.mono (by first | decide | omega)) (by rfl) T.g__law_times T.F__law_times.kp T.b__law_times .nil pass0 (pa_cons (pv 5) (pa_cons (pv 5) pa_nil))) pa_nil))) pa_nil)))))))), ?_⟩
    obtain ⟨e0, bp, br, be⟩ := bn
    obtain ⟨a, x, y, z, rfl, ha, hx, hy, hz⟩ := rn
    refine ⟨_, rfl, a, _, rfl, SqT.of ha, rfl, _, _, rfl, _, _, rfl, _, _, rfl, rfl, ?_⟩
    refine ⟨.ref d, rfl, d, l, s, ns, _, 30, rfl, hD, by omega, by decide, by decide, fun H2 i k2 D2 i0 i1 => ⟨1, i, rfl, rfl, ?_⟩⟩
    refine ⟨.ref d, rfl, d, l, s, ns, _, 30, rfl, D2, by omega, by decide, by decide, fun H3 j k3 D3 j0 j1 => ⟨1, j, rfl, rfl, 1 + i, 1 + j, rfl, by omega, bt_small (by omega), fun H4 v4 s4 f4 => ?_⟩⟩
    have bf : Rb 5 (Rat.divInt (1 + i) (1 + j)) := rb_div (by omega) (bt_lit (by omega)) (bt_lit (by omega))
    have p0 : 0 < Rat.divInt (1 + i) (1 + j) := div_pos' (by omega) (by omega)
    generalize Rat.divInt (1 + i) (1 + j) = f at *
    have M2 := k2.trans k3
    have hy4 := (M2.fr hD hy).same s4
    have hx4 := (M2.fr hD hx).same s4
    have hz4 := (M2.fr hD hz).same s4
    obtain ⟨pf1, rfl, hf⟩ := f4
    have fn : 0 < f.num := by
      have h1 : 0 ≤ f.num := Rat.num_nonneg.mpr (Rat.le_of_lt p0)
      have h2 := num_ne (r := f) (by grind)
      omega
    refine ⟨_, rfl, _, rfl, _, rfl, pf1, _, 1, _, rfl, rfl, SqT.of hf, rfl, _, rfl, pf1, _, 0, _, rfl, rfl, SqT.of hf, rfl, sz_n (by decide : 2 ≤ 1000), fun g ng => ?_⟩
    have sg1 := same_upd (o := .tup [.int (f.den : Int), .int f.num]) ng
    let fi : Rat := ⟨(f.den : Int), f.num.natAbs, by omega, Nat.Coprime.symm f.reduced⟩
    have hfi : FrV (upd H4 g (.tup [.int (f.den : Int), .int f.num])) (.ref g) fi := frv_new rfl (by show f.num = ((f.num.natAbs : Nat) : Int); omega)
    have bfi : Rb 5 fi := ⟨bf.2, by
      have h1 := bf.1
      show Bt 5 ((f.num.natAbs : Nat) : Int)
      unfold Bt at *
      omega⟩
    have efi : fi * f = 1 := by
      have a1 := rat_num f
      have a2 := rat_num fi
      have a3 : (fi.num : Rat) = (f.den : Rat) := rfl
      have a4 : (fi.den : Rat) = (f.num : Rat) := by
        show ((f.num.natAbs : Nat) : Rat) = (f.num : Rat)
        have : ((f.num.natAbs : Nat) : Int) = f.num := by omega
        rw [← this]
        rfl
      have a5 : (0 : Rat) < (f.den : Rat) := Rat.natCast_lt_natCast.mpr f.den_pos
      rw [a3, a4, ← a1] at a2
      generalize (f.den : Rat) = D at *
      have : (fi * f - 1) * D = 0 := by grind
      rcases Rat.mul_eq_zero.mp this with h | h <;> grind
    clear_value fi
    refine ⟨y, .ref g, r, fi, rfl, hy4.same sg1, hfi, br.mono (by decide), bfi.mono (by decide), trivial, fun H5 v5 s5 f5 => ?_⟩
    have f4' : FrV H5 (.ref pf1) f := FrV.same (sg1.trans s5) ⟨pf1, rfl, hf⟩
    refine ⟨_, rfl, _, rfl, _, rfl, .ref pf1, .ref pf1, f, f, rfl, f4', f4', bf.mono (by decide), bf.mono (by decide), trivial, fun H6 v6 s6 f6 => ?_⟩
    refine ⟨z, v6, e, _, rfl, hz4.same (sg1.trans (s5.trans s6)), f6, be.mono (by decide), (bf.mul bf).mono (by decide), trivial, fun H7 v7 s7 f7 => ⟨sz_n (by decide : 3 ≤ 1000), fun t m => ?_⟩⟩
    have e1 := same_upd (o := .tup [x, v5, v7]) m
    have N := sg1.trans (s5.trans (s6.trans (s7.trans e1)))
    refine q _ _ (r * fi) (e * (f * f)) (M2.trans (same_keep (s4.trans N))) ((D3.same (s4.trans N)).mono (by omega)) ⟨t, _, _, _, rfl, upd_same, hx4.same N, f5.same (s6.trans (s7.trans e1)), f7.same e1⟩ ⟨Rat.mul_nonneg e0 (sq_nn _), bp.mono (by decide), (br.mul bfi).mono (by decide), (be.mul (bf.mul bf)).mono (by decide)⟩ ?_
    unfold rv
    have es : sqrt (rat (e * (f * f))) = rat f * sqrt (rat e) := by
      refine sqrt_eq (mul_nonneg (rat_nonneg.mpr (Rat.le_of_lt p0)) (sqrt_nonneg _)) ?_
      have := sqrt_sq (rat_nonneg.mpr e0)
      rw [rat_mul, rat_mul]
      grind
    have ef : rat fi * rat f = 1 := by
      rw [← rat_mul, efi]
      rfl
    rw [es, rat_mul]
    generalize sqrt (rat e) = w at *
    grind
/-- a row of root numbers and their worths -/
def RX (H : Hp) : List V → List Re → Prop
  | [], [] => True
  | v :: vs, x :: xs => (∃ p q e, RnV H v p q e ∧ RnB 40 40 40 p q e ∧ x = rv p q e) ∧ RX H vs xs
  | _, _ => False
theorem RX.imp {H H' : Hp} (k : ∀ a ys, H a = some (.tup ys) → H' a = some (.tup ys)) : ∀ {vs : List V} {xs : List Re}, RX H vs xs → RX H' vs xs
  | [], [], _ => trivial
  | v :: vs, x :: xs, h => by
    obtain ⟨⟨p, q, e, r, b, ex⟩, t⟩ := h
    exact ⟨⟨p, q, e, r.imp k, b, ex⟩, RX.imp k t⟩
  | [], _ :: _, h => h.elim
  | _ :: _, [], h => h.elim
theorem RX.len {H : Hp} : ∀ {vs : List V} {xs : List Re}, RX H vs xs → vs.length = xs.length
  | [], [], _ => rfl
  | v :: vs, x :: xs, h => congrArg (· + 1) (RX.len h.2)
  | [], _ :: _, h => h.elim
  | _ :: _, [], h => h.elim
theorem RX.get {H : Hp} : ∀ {vs : List V} {xs : List Re} {i : Nat} {v : V}, RX H vs xs → vs[i]? = some v → ∃ p q e, RnV H v p q e ∧ RnB 40 40 40 p q e ∧ xs[i]? = some (rv p q e)
  | [], [], _, _, _, e => by simp at e
  | u :: vs, x :: xs, 0, v, h, e => by
    have e : u = v := Option.some.inj e
    subst e
    obtain ⟨⟨p, q, e, r, b, ex⟩, _⟩ := h
    exact ⟨p, q, e, r, b, by rw [← ex]; rfl⟩
  | u :: vs, x :: xs, i + 1, v, h, e => RX.get (i := i) h.2 e
  | [], _ :: _, _, _, h, _ => h.elim
  | _ :: _, [], _, _, h, _ => h.elim
theorem RX.snoc {H : Hp} {v : V} {x : Re} (hv : ∃ p q e, RnV H v p q e ∧ RnB 40 40 40 p q e ∧ x = rv p q e) : ∀ {vs : List V} {xs : List Re}, RX H vs xs → RX H (vs ++ [v]) (xs ++ [x])
  | [], [], _ => ⟨hv, trivial⟩
  | u :: vs, y :: xs, h => ⟨h.1, RX.snoc hv h.2⟩
  | [], _ :: _, h => h.elim
  | _ :: _, [], h => h.elim
def lcScope : Expr → Scope
  | .ListComp _ _ sc _ => sc
  | _ => { kind := .function, names := [], isGenerator := false, isCoroutine := false }
def asgVal : Stmt → Expr
  | .Assign _ v _ => v
  | _ => .Constant .none 0 ⟨0, 0, 0, 0⟩
theorem same_t {H H' : Hp} (e : Same H H') : ∀ a ys, H a = some (.tup ys) → H' a = some (.tup ys) := fun _ _ h => e _ _ h
theorem keep_t {K : PySem.W.Frag} {H H' : Hp} {d l s : Addr} {ns : List Int} {c : Nat} (k : Keep d l H H') (D : Dk K H d l s ns c) : ∀ a ys, H a = some (.tup ys) → H' a = some (.tup ys) := fun _ _ h => k.tup D h
theorem rnb4 {p q e : Rat} (h : RnB 20 20 20 p q e) : RnB 40 40 40 p q e := ⟨h.1, h.2.1.mono (by decide), h.2.2.1.mono (by decide), h.2.2.2.mono (by decide)⟩
def sp_law (K : PySem.W.Frag) : Sp := fun vs H Q _ => ∃ (a : Addr) (ns : List Int), vs = [.ref a] ∧ SqL K H a (ns.map V.int) ∧ ns.length ≤ 63 ∧ ∀ H', Q (.bl true) H'
theorem ok_law {f : Addr} {fd : FuncData} (F : Fun K "law" "law" s_law f fd) (T : Tx K mg) : FnOk P w K mg base CX0 7 f fd ["_law_script"] (sp_law K) := by
  have G__law_deck := ok__law_deck (P := P) (w := w) (base := base) T
  have G__law_fraction := ok__law_fraction (P := P) (w := w) (base := base) T
  have G__law_moved := ok__law_moved (P := P) (w := w) (base := base) T
  have G__law_number := ok__law_number (P := P) (w := w) (base := base) T
  have G__law_same_written := ok__law_same_written (P := P) (w := w) (base := base) T
  have G__law_share := ok__law_share (P := P) (w := w) (base := base) T
  have G__law_take := ok__law_take (P := P) (w := w) (base := base) T
  have G_compare := ok_compare (P := P) (w := w) (base := base) T
  refine F.ok sc_law (fun vs H Q E h => ?_) (fun cdv A outer s H vs Q E hr h => ?_)
  · obtain ⟨_, _, rfl, _⟩ := h
    rfl
  · obtain ⟨sa, ns, rfl, hS, hlen, q⟩ := h
    refine ⟨_, (pss_cons (ps_set (i := 1) sc_law.nd rfl (Or.inr rfl) (pe_call G__law_deck (hr.mono (by first | decide | omega)) (by rfl) T.g__law_deck T.F__law_deck.kp T.b__law_deck .nil pass0 (pa_cons (pv 0) pa_nil)))
      (pss_cons (ps_set (i := 2) sc_law.nd rfl (Or.inr rfl) (pe_lc (own := [("_law_k", 6)]) (g := gName 6) (by rfl) sc_law.nd (pi_range1 (by rfl) T.m_range (pa_cons pe_int pa_nil)) (blkOk_by (own := [("_law_k", 6)]) (N := nm_law) (sc := defScope s_law) (by decide +kernel)) (fun _ _ _ _ _ => (pg_name (i := 6) sc_law.nd rfl (Or.inl rfl))) (fun _ _ _ _ _ => pts_nil) (fun _ _ _ _ _ => (pe_call G__law_number (hr.mono (by first | decide | omega)) (by rfl) T.g__law_number T.F__law_number.kp T.b__law_number .nil pass0 (pa_cons (pv 1) pa_nil)))))
      (pss_cons (ps_expr (pe_bm PySem.F.plainAttrs_list PySem.F.slot_list_append PySem.F.type_list_append mt_append (pv 2) (pa_cons (pe_call G__law_same_written (hr.mono (by first | decide | omega)) (by rfl) T.g__law_same_written T.F__law_same_written.kp T.b__law_same_written .nil pass0 (pa_cons (pv 1) (pa_cons (pe_ix ix_list (pv 2) pe_int (fun _ _ => rfl)) pa_nil))) pa_nil)))
      (pss_cons (ps_set (i := 3) sc_law.nd rfl (Or.inl rfl) (pe_call G__law_fraction (hr.mono (by first | decide | omega)) (by rfl) T.g__law_fraction T.F__law_fraction.kp T.b__law_fraction .nil pass0 (pa_cons (pv 1) pa_nil)))
      (pss_cons (ps_set (i := 4) sc_law.nd rfl (Or.inl rfl) (pe_call G__law_share (hr.mono (by first | decide | omega)) (by rfl) T.g__law_share T.F__law_share.kp T.b__law_share .nil pass0 (pa_cons (pe_op op_add pe_int (pe_call G__law_take (hr.mono (by first | decide | omega)) (by rfl) T.g__law_take T.F__law_take.kp T.b__law_take .nil pass0 (pa_cons (pv 1) (pa_cons pe_int pa_nil)))) (pa_cons (pe_op op_add pe_int (pe_call G__law_take (hr.mono (by first | decide | omega)) (by rfl) T.g__law_take T.F__law_take.kp T.b__law_take .nil pass0 (pa_cons (pv 1) (pa_cons pe_int pa_nil)))) pa_nil))))
      (pss_cons (ps_setLc (i := 5) (own := [("_law_other", 10)]) (g := gName 10) (by rfl) sc_law.nd rfl rfl (sw_true rfl rfl rfl (by decide +kernel)) (pi_list (pv 2)) (blkOk_by (own := [("_law_other", 10)]) (N := nm_law) (sc := defScope s_law) (by decide +kernel)) (fun _ _ _ _ _ => (pg_name (i := 10) sc_law.nd rfl (Or.inr rfl))) (fun _ _ _ _ _ => pts_nil) (fun _ _ _ _ _ => (pe_callB (call_len_seqC (K := K) rfl) (by rfl) T.m_len (by decide +kernel) (pa_cons (pe_lc (own := [("_law_one", 11)]) (g := gName 11) (by rfl) sc_law.nd (pi_listC (K := K) rfl (pv 2)) (blkOk_by (own := [("_law_one", 11)]) (N := nm_law) (sc := relS (lcScope (asgVal ((defBody s_law).getD 5 (.Pass ⟨0, 0, 0, 0⟩)))) (defScope s_law)) (by decide +kernel)) (fun _ _ _ _ _ => (pg_name (i := 11) sc_law.nd rfl (Or.inl rfl))) (fun _ _ _ _ _ => (pts_one (pt_cmpR op_lt (pe_call G_compare (hr.mono (by first | decide | omega)) (by rfl) T.g_compare T.F_compare.kp T.b_compare .nil pass0 (pa_cons (pv 11) (pa_cons (pv 10) pa_nil))) pe_int (nomark _)))) (fun _ _ _ _ _ => (pv 11))) pa_nil))))
      (pss_cons (ps_if (PW.pt (pw_or (pt_cmpR op_ne (pe_ix ix_list (pv 5) pe_int (fun _ _ => rfl)) (pe_ix ix_list (pv 5) pe_int (fun _ _ => rfl)) (nomark _)) (pw_or1 (pt_cmpR op_ne (pe_call G_compare (hr.mono (by first | decide | omega)) (by rfl) T.g_compare T.F_compare.kp T.b_compare .nil pass0 (pa_cons (pe_ix ix_list (pv 2) pe_int (fun _ _ => rfl)) (pa_cons (pe_ix ix_list (pv 2) pe_int (fun _ _ => rfl)) pa_nil))) pe_int (nomark _))))) (pss_one (ps_ret pe_bl)) pss_nil)
      (pss_cons (ps_for PassesOwn.never rfl (pi_range1 (by rfl) T.m_range (pa_cons pe_int pa_nil)) (pg_name (i := 6) sc_law.nd rfl (Or.inl rfl)) (pss_one (ps_for PassesOwn.never rfl (pi_range1 (by rfl) T.m_range (pa_cons pe_int pa_nil)) (pg_name (i := 7) sc_law.nd rfl (Or.inl rfl)) (pss_cons (ps_set (i := 8) sc_law.nd rfl (Or.inl rfl) (pe_call G_compare (hr.mono (by first | decide | omega)) (by rfl) T.g_compare T.F_compare.kp T.b_compare .nil pass0 (pa_cons (pe_ix ix_list (pv 2) (pv 6) (fun _ _ => rfl)) (pa_cons (pe_ix ix_list (pv 2) (pv 7) (fun _ _ => rfl)) pa_nil))))
      (pss_cons (ps_set (i := 9) sc_law.nd rfl (Or.inl rfl) (pe_op op_sub (pe_callTy call_int1 (by rfl) T.m_int (by decide +kernel) (pa_cons (pe_cmpR op_gt (pe_ix ix_list (pv 5) (pv 6) (fun _ _ => rfl)) (pe_ix ix_list (pv 5) (pv 7) (fun _ _ => rfl)) (nomark _)) pa_nil)) (pe_callTy call_int1 (by rfl) T.m_int (by decide +kernel) (pa_cons (pe_cmpR op_lt (pe_ix ix_list (pv 5) (pv 6) (fun _ _ => rfl)) (pe_ix ix_list (pv 5) (pv 7) (fun _ _ => rfl)) (nomark _)) pa_nil))))
      (pss_cons (ps_if (PW.pt (pw_or (pt_cmpR op_ne (pv 8) (pv 9) (nomark _)) (pw_or1 (pt_cmpR op_ne (pe_call G_compare (hr.mono (by first | decide | omega)) (by rfl) T.g_compare T.F_compare.kp T.b_compare .nil pass0 (pa_cons (pe_ix ix_list (pv 2) (pv 7) (fun _ _ => rfl)) (pa_cons (pe_ix ix_list (pv 2) (pv 6) (fun _ _ => rfl)) pa_nil))) (pe_un un_neg (pv 8)) (nomark _))))) (pss_one (ps_ret pe_bl)) pss_nil)
      (pss_cons (ps_if (pt_cmpR op_ne (pe_call G_compare (hr.mono (by first | decide | omega)) (by rfl) T.g_compare T.F_compare.kp T.b_compare .nil pass0 (pa_cons (pe_call G__law_moved (hr.mono (by first | decide | omega)) (by rfl) T.g__law_moved T.F__law_moved.kp T.b__law_moved .nil pass0 (pa_cons (pe_ix ix_list (pv 2) (pv 6) (fun _ _ => rfl)) (pa_cons (pv 3) (pa_cons (pv 4) pa_nil)))) (pa_cons (pe_call G__law_moved (hr.mono (by first | decide | omega)) (by rfl) T.g__law_moved T.F__law_moved.kp T.b__law_moved .nil pass0 (pa_cons (pe_ix ix_list (pv 2) (pv 7) (fun _ _ => rfl)) (pa_cons (pv 3) (pa_cons (pv 4) pa_nil)))) pa_nil))) (pv 8) (nomark _)) (pss_one (ps_ret pe_bl)) pss_nil)
      (pss_one (ps_if (pt_cmpR op_ne (pe_call G_compare (hr.mono (by first | decide | omega)) (by rfl) T.g_compare T.F_compare.kp T.b_compare .nil pass0 (pa_cons (pe_call G__law_moved (hr.mono (by first | decide | omega)) (by rfl) T.g__law_moved T.F__law_moved.kp T.b__law_moved .nil pass0 (pa_cons (pe_ix ix_list (pv 2) (pv 6) (fun _ _ => rfl)) (pa_cons (pv 3) (pa_cons (pe_tup (pa_cons (pe_un un_neg pe_int) (pa_cons pe_int pa_nil))) pa_nil)))) (pa_cons (pe_call G__law_moved (hr.mono (by first | decide | omega)) (by rfl) T.g__law_moved T.F__law_moved.kp T.b__law_moved .nil pass0 (pa_cons (pe_ix ix_list (pv 2) (pv 7) (fun _ _ => rfl)) (pa_cons (pv 3) (pa_cons (pe_tup (pa_cons (pe_un un_neg pe_int) (pa_cons pe_int pa_nil))) pa_nil)))) pa_nil))) (pe_un un_neg (pv 8)) (nomark _)) (pss_one (ps_ret pe_bl)) pss_nil)))))))))
      (pss_one (ps_ret pe_bl)))))))))), ?_⟩
    refine ⟨.ref sa, rfl, sa, ns, rfl, hS, hlen, fun H1 d l s1 D1 _ _ => ?_⟩
    refine ⟨4, rfl, by decide, by decide, fun D nD => ?_⟩
    have ap := D1.apart nD
    refine lc_range (lo := 0) (n := 4) (fun i H' => Dk K H' d l sa ns (40 * i) ∧ ∃ acc, H' D = some (.lst acc) ∧ acc.length = i ∧ ∀ v ∈ acc, ∃ p q e, RnV H' v p q e ∧ RnB 20 20 20 p q e) ⟨D1.new nD, [], upd_same, rfl, fun _ h => nomatch h⟩ (fun i H2 hi h => ?_) (fun H2 h => ?_)
    · obtain ⟨D2, acc, hD, hl, ha⟩ := h
      refine ⟨rfl, rd_yes (iteT ?_)⟩
      refine ⟨.ref d, rfl, d, l, sa, ns, _, rfl, D2, by omega, fun H3 v p r e k3 D3 r3 b3 => ?_⟩
      have hD3 := k3 _ _ hD ap.1 ap.2.1
      refine ⟨acc, hD3, small1000 (by omega), (D3.mono (by omega)).beside ap, acc ++ [v], upd_same, by rw [List.length_append, hl]; rfl, fun u hu => ?_⟩
      rcases List.mem_append.mp hu with hu | hu
      · obtain ⟨p', q', e', r', b'⟩ := ha u hu
        exact ⟨p', q', e', (k3.rn D2 r').imp (tup_lst hD3), b'⟩
      · rw [List.mem_singleton.mp hu]
        exact ⟨p, r, e, r3.imp (tup_lst hD3), b3⟩
    · obtain ⟨D2, acc, hD, hl, ha⟩ := h
      obtain ⟨v0, v1, v2, v3, rfl⟩ : ∃ v0 v1 v2 v3, acc = [v0, v1, v2, v3] := by
        match acc, hl with
        | [a, b, c, e], _ => exact ⟨a, b, c, e, rfl⟩
      obtain ⟨p0, q0, e0, r0, b0⟩ := ha v0 (by simp)
      obtain ⟨p1, q1, e1, r1, b1⟩ := ha v1 (by simp)
      obtain ⟨p2, q2, e2, r2, b2⟩ := ha v2 (by simp)
      obtain ⟨p3, q3, e3, r3, b3⟩ := ha v3 (by simp)
      clear ha hl
      -- the fifth
      refine ⟨.ref D, rfl, .inl ⟨rfl, _, SqL.of hD⟩, .ref d, rfl, .ref D, rfl, D, _, 0, _, rfl, rfl, SqL.of hD, rfl, d, l, sa, ns, _, v0, p0, q0, e0, rfl, D2, by decide, r0, b0, fun H3 v4 q4 e4 k3 D3 r4 b4 ev => ?_⟩
      have hD3 := k3 _ _ hD ap.1 ap.2.1
      refine ⟨D, _, v4, rfl, rfl, hD3, small1000 (show 4 ≤ 1000 by decide), ?_⟩
      have D4 : Dk K (upd H3 D (.lst ([v0, v1, v2, v3] ++ [v4]))) d l sa ns (40 * 4 + 2) := D3.beside ap
      have hD4 : upd H3 D (.lst ([v0, v1, v2, v3] ++ [v4])) D = some (.lst ([v0, v1, v2, v3] ++ [v4])) := upd_same
      have R4 : RX (upd H3 D (.lst ([v0, v1, v2, v3] ++ [v4]))) ([v0, v1, v2, v3] ++ [v4]) [rv p0 q0 e0, rv p1 q1 e1, rv p2 q2 e2, rv p3 q3 e3, rv p0 q0 e0] :=
        ⟨⟨_, _, _, (k3.rn D2 r0).imp (tup_lst hD3), rnb4 b0, rfl⟩, ⟨_, _, _, (k3.rn D2 r1).imp (tup_lst hD3), rnb4 b1, rfl⟩, ⟨_, _, _, (k3.rn D2 r2).imp (tup_lst hD3), rnb4 b2, rfl⟩, ⟨_, _, _, (k3.rn D2 r3).imp (tup_lst hD3), rnb4 b3, rfl⟩, ⟨_, _, _, r4.imp (tup_lst hD3), b4, ev.symm⟩, trivial⟩
      generalize upd H3 D (.lst ([v0, v1, v2, v3] ++ [v4])) = H4 at *
      have lr : ([v0, v1, v2, v3] ++ [v4]).length = 5 := rfl
      generalize [v0, v1, v2, v3] ++ [v4] = row at *
      have X04 : [rv p0 q0 e0, rv p1 q1 e1, rv p2 q2 e2, rv p3 q3 e3, rv p0 q0 e0][0]? = [rv p0 q0 e0, rv p1 q1 e1, rv p2 q2 e2, rv p3 q3 e3, rv p0 q0 e0][4]? := rfl
      generalize [rv p0 q0 e0, rv p1 q1 e1, rv p2 q2 e2, rv p3 q3 e3, rv p0 q0 e0] = X at *
      clear r0 r1 r2 r3 r4 b0 b1 b2 b3 b4 hD hD3 D2 D3 k3 ev
      -- more, size
      refine ⟨.ref d, rfl, d, l, sa, ns, _, rfl, D4, by decide, fun H5 vm m k5 D5 fm bm => ?_⟩
      refine ⟨.ref d, rfl, d, l, sa, ns, _, 99, rfl, D5, by decide, by decide, by decide, fun H6 i6 k6 D6 _ _ => ⟨1, i6, rfl, rfl, ?_⟩⟩
      refine ⟨.ref d, rfl, d, l, sa, ns, _, 99, rfl, D6, by decide, by decide, by decide, fun H7 i7 k7 D7 _ _ => ⟨1, i7, rfl, rfl, 1 + i6, 1 + i7, rfl, by omega, bt_small (by omega), fun H8 vz s8 fz => ?_⟩⟩
      have bz : Rb 20 (Rat.divInt (1 + i6) (1 + i7)) := rb_div (by omega) (bt_lit (by omega)) (bt_lit (by omega))
      have z0 : 0 < Rat.divInt (1 + i6) (1 + i7) := div_pos' (by omega) (by omega)
      generalize Rat.divInt (1 + i6) (1 + i7) = z at *
      have K8 : Keep d l H4 H8 := k5.trans (k6.trans (k7.trans (same_keep s8)))
      have hD8 := K8 _ _ hD4 ap.1 ap.2.1
      have R8 : RX H8 row X := R4.imp (keep_t K8 D4)
      have fm8 : FrV H8 vm m := ((k6.trans k7).fr D5 fm).same s8
      clear hD4 R4 K8 D4 D5 D6 D7 k5 k6 k7 fm s8
      -- below
      refine ⟨_, rfl, D, rfl, ⟨_, SqL.of hD8⟩, fun B nB => ?_⟩
      refine lc_list (K := K) (a := D) (xs := row) (fun i H' => Same H8 H' ∧ H' B = some (.lst ((X.take i).map fun y => V.int (less y X : Int)))) ⟨same_upd nB, upd_same⟩ (fun i H' _ h => h.1.seq (SqL.of hD8)) (fun i v H' hv h => ?_) (fun H9 h => ?_)
      · obtain ⟨hSm, hB⟩ := h
        obtain ⟨p, r, e, rn, bn, hx⟩ := R8.get hv
        refine ⟨rfl, rd_yes (iteT ?_)⟩
        refine ⟨_, rfl, D, rfl, ⟨_, hSm.seq (SqL.of hD8)⟩, fun W nW => ?_⟩
        refine lc_list (K := K) (a := D) (xs := row) (fun j H'' => Same H' H'' ∧ ∃ acc, H'' W = some (.lst acc) ∧ acc.length = less (rv p r e) (X.take j)) ⟨same_upd nW, [], upd_same, rfl⟩ (fun j H'' _ h => h.1.seq (hSm.seq (SqL.of hD8))) (fun j u H'' hu h => ?_) (fun H'' h => ?_)
        · obtain ⟨hS2, acc, hW, hl⟩ := h
          obtain ⟨p', r', e', rn', bn', hx'⟩ := R8.get hu
          have lj : j < 5 := by
            have := (List.getElem?_eq_some_iff.mp hu).1
            omega
          have ls : acc.length ≤ 5 ∨ True := .inr trivial
          refine ⟨rfl, _, rfl, _, rfl, u, v, p', r', e', p, r, e, rfl, rn'.same (hSm.trans hS2), rn.same (hSm.trans hS2), ⟨bn'.1, bn'.2.1.mono (by decide), bn'.2.2.1.mono (by decide), bn'.2.2.2.mono (by decide)⟩, ⟨bn.1, bn.2.1.mono (by decide), bn.2.2.1.mono (by decide), bn.2.2.2.mono (by decide)⟩, fun H3 s3 => ⟨_, 0, rfl, rfl, _, rfl, ?_⟩⟩
          have tk : X.take (j + 1) = X.take j ++ [rv p' r' e'] := take_succ hx'
          have bound : ∀ (y : Re) (l' : List Re), less y l' ≤ l'.length := fun y l' => by
            induction l' with
            | nil => exact Nat.le_refl _
            | cons x t ih =>
              unfold less
              rw [List.length_cons]
              split <;> omega
          have al : acc.length ≤ 5 := by
            rw [hl]
            refine Nat.le_trans (bound _ _) ?_
            rw [List.length_take]
            omega
          refine ite2 (fun g => ?_) (fun g => ?_)
          · have g := of_decide_eq_true g
            refine ⟨u, rfl, acc, s3 _ _ hW, small1000 (by omega), fun a o e => ?_, acc ++ [u], upd_same, ?_⟩
            · rw [upd_ne (ne_of_none e nW)]
              exact s3 _ _ (hS2 _ _ e)
            · rw [tk, less_snoc, if_pos g, List.length_append, hl]
              rfl
          · have g : ¬ sgn (rv p' r' e' - rv p r e) < 0 := fun y => g (decide_eq_true y)
            refine ⟨hS2.trans s3, acc, s3 _ _ hW, ?_⟩
            rw [tk, less_snoc, if_neg g]
            exact hl
        · obtain ⟨hS2, acc, hW, hl⟩ := h
          have lx : row.length = X.length := R8.len
          rw [lx, List.take_length] at hl
          refine ⟨W, acc, rfl, .inl (SqL.of hW), _, hS2 _ _ hB, small1000 (by rw [List.length_map, List.length_take]; omega), fun a o e => ?_, ?_⟩
          · rw [upd_ne (ne_of_none e nB)]
            exact hS2 _ _ (hSm _ _ e)
          · rw [upd_same, take_succ hx, List.map_append, hl]
            rfl
      · obtain ⟨hSm, hB⟩ := h
        have lx : row.length = X.length := R8.len
        rw [lx, List.take_length] at hB
        have hD9 := hSm _ _ hD8
        have R9 : RX H9 row X := R8.imp (same_t hSm)
        have fm9 := fm8.same hSm
        have fz9 := fz.same hSm
        clear hD8 R8 fm8 fz hSm nB
        have lX : X.length = 5 := lx ▸ lr
        -- what stands at a place
        have place : ∀ j : Nat, j < 5 → ∃ v p r e, row[j]? = some v ∧ RnV H9 v p r e ∧ RnB 40 40 40 p r e ∧ X[j]? = some (rv p r e) ∧ (X.map fun y => V.int (less y X : Int))[j]? = some (V.int (less (rv p r e) X : Int)) := fun j hj => by
          have g : row[j]? = some (row[j]'(by omega)) := List.getElem?_eq_getElem (by omega)
          obtain ⟨p, r, e, rn, bn, hx⟩ := R9.get g
          refine ⟨_, p, r, e, g, rn, bn, hx, ?_⟩
          rw [List.getElem?_map, hx]
          rfl
        have b4 : ∀ {p r e : Rat}, RnB 40 40 40 p r e → 0 ≤ e ∧ Rb 300 p ∧ Rb 300 r ∧ Rb 300 e := fun h => ⟨h.1, h.2.1.mono (by decide), h.2.2.1.mono (by decide), h.2.2.2.mono (by decide)⟩
        obtain ⟨v0, p0, q0, e0, g0, r0, b0, x0, w0⟩ := place 0 (by decide)
        obtain ⟨v4, p4, q4, e4, g4, r4, b4', x4, w4⟩ := place 4 (by decide)
        have e04 : rv p0 q0 e0 = rv p4 q4 e4 := by
          rw [x0, x4] at X04
          exact Option.some.inj X04
        refine ⟨.ref B, rfl, B, _, 0, _, rfl, rfl, SqL.of hB, atI_nat (j := 0) w0, .ref B, rfl, B, _, 4, _, rfl, rfl, SqL.of hB, atI_nat (j := 4) w4, rfl, _, rfl, iteNS (by rw [e04]) ?_⟩
        refine ⟨.ref D, rfl, D, _, 0, _, rfl, rfl, SqL.of hD9, atI_nat (j := 0) g0, .ref D, rfl, D, _, 4, _, rfl, rfl, SqL.of hD9, atI_nat (j := 4) g4, v0, v4, p0, q0, e0, p4, q4, e4, rfl, r0, r4, b4 b0, b4 b4', fun Ha ta => ?_⟩
        rw [e04, show rv p4 q4 e4 - rv p4 q4 e4 = 0 by grind, sgn_zero]
        refine ⟨rfl, _, rfl, iteNS rfl ?_⟩
        -- each with each
        refine ⟨5, rfl, by decide, by decide, for_range (lo := 0) (n := 5) (fun i σ H' => Same H9 H' ∧ ∃ y1 y6 y7 y8 y9 y10 y11, σ = [some (.ref sa), y1, some (.ref D), some vm, some vz, some (.ref B), y6, y7, y8, y9, y10, y11]) ⟨ta, _, _, _, _, _, _, _, rfl⟩ (fun i σ H' hi h => ?_) (fun σ H' h => q _)⟩
        obtain ⟨hSo, y1, y6, y7, y8, y9, y10, y11, rfl⟩ := h
        refine ⟨5, rfl, by decide, by decide, for_range (lo := 0) (n := 5) (fun j σ H'' => Same H9 H'' ∧ ∃ y1 y7 y8 y9 y10 y11, σ = [some (.ref sa), y1, some (.ref D), some vm, some vz, some (.ref B), some (.int (0 + (i : Int))), y7, y8, y9, y10, y11]) ⟨hSo, _, _, _, _, _, _, rfl⟩ (fun j σ H'' hj h => ?_) (fun σ H'' h => ?_)⟩
        · obtain ⟨hS2, y1, y7, y8, y9, y10, y11, rfl⟩ := h
          obtain ⟨vi, p1, q1, e1, g1, r1, b1, x1, w1⟩ := place i hi
          obtain ⟨vj, p2, q2, e2, g2, r2, b2, x2, w2⟩ := place j hj
          have m1 : rv p1 q1 e1 ∈ X := List.mem_of_getElem? x1
          have m2 : rv p2 q2 e2 ∈ X := List.mem_of_getElem? x2
          have key := less_sgn m1 m2
          have hDs := hS2.seq (K := K) (SqL.of hD9)
          have hBs := hS2.seq (K := K) (SqL.of hB)
          refine ⟨_, rfl, _, rfl, D, _, _, _, rfl, rfl, hDs, at_of (Int.zero_add _) g1, _, rfl, _, rfl, D, _, _, _, rfl, rfl, hDs, at_of (Int.zero_add _) g2, vi, vj, p1, q1, e1, p2, q2, e2, rfl, r1.same hS2, r2.same hS2, b4 b1, b4 b2, fun Hb tb => ?_⟩
          have S3 := hS2.trans tb
          have hD3 := S3.seq (K := K) (SqL.of hD9)
          have hB3 := S3.seq (K := K) (SqL.of hB)
          refine ⟨_, rfl, _, rfl, B, _, _, _, rfl, rfl, hB3, at_of (Int.zero_add _) w1, _, rfl, _, rfl, B, _, _, _, rfl, rfl, hB3, at_of (Int.zero_add _) w2, _, _, rfl, rfl, .inr ⟨_, rfl, _, rfl, _, rfl, B, _, _, _, rfl, rfl, hB3, at_of (Int.zero_add _) w1, _, rfl, _, rfl, B, _, _, _, rfl, rfl, hB3, at_of (Int.zero_add _) w2, _, _, rfl, rfl, .inr ⟨_, rfl, _, _, rfl, rfl, ?_⟩⟩⟩
          refine ⟨_, rfl, _, rfl, rfl, _, rfl, iteNS (congrArg V.int key) ?_⟩
          refine ⟨_, rfl, _, rfl, D, _, _, _, rfl, rfl, hD3, at_of (Int.zero_add _) g2, _, rfl, _, rfl, D, _, _, _, rfl, rfl, hD3, at_of (Int.zero_add _) g1, vj, vi, p2, q2, e2, p1, q1, e1, rfl, r2.same S3, r1.same S3, b4 b2, b4 b1, fun Hc tc => ⟨_, rfl, _, rfl, rfl, _, rfl, iteNS (congrArg V.int ?_) ?_⟩⟩
          · rw [← sgn_opp]
            congr 1
            grind
          have S4 := S3.trans tc
          have hD4 := S4.seq (K := K) (SqL.of hD9)
          have big : ∀ {p r e : Rat}, RnB 40 40 40 p r e → ∀ {y : Rat}, Rb 20 y → 0 ≤ e ∧ Rb 300 (p * y + m) ∧ Rb 300 (r * y) ∧ Rb 300 e := fun {p r e} h {y} hy => ⟨h.1, ((h.2.1.mul hy).add bm).mono (by decide), (h.2.2.1.mul hy).mono (by decide), h.2.2.2.mono (by decide)⟩
          -- moved, times a fraction above nought
          refine ⟨_, rfl, _, rfl, D, _, _, _, rfl, rfl, hD4, at_of (Int.zero_add _) g1, _, rfl, _, rfl, vi, vm, vz, p1, q1, e1, m, z, rfl, r1.same S4, fm9.same S4, fz9.same S4, b1, bm, bz, fun Hd vd td rd => ?_⟩
          have S5 := S4.trans td
          refine ⟨_, rfl, _, rfl, D, _, _, _, rfl, rfl, S5.seq (SqL.of hD9), at_of (Int.zero_add _) g2, _, rfl, _, rfl, vj, vm, vz, p2, q2, e2, m, z, rfl, r2.same S5, fm9.same S5, fz9.same S5, b2, bm, bz, fun He ve te re => ?_⟩
          refine ⟨vd, ve, _, _, _, _, _, _, rfl, rd.same te, re, big b1 bz, big b2 bz, fun Hf tf => ?_⟩
          refine ⟨_, rfl, rfl, _, rfl, iteNS (congrArg V.int ?_) ?_⟩
          · rw [moved_val, moved_val, show rat z * rv p1 q1 e1 + rat m - (rat z * rv p2 q2 e2 + rat m) = rat z * (rv p1 q1 e1 - rv p2 q2 e2) by grind, sgn_scale (rat_pos.mpr z0)]
          have S7 := S5.trans (te.trans tf)
          -- moved, times -1
          have bo : Rb 20 (-1 : Rat) := ⟨bt_lit (by decide), bt_lit (by decide)⟩
          refine ⟨_, rfl, _, rfl, D, _, _, _, rfl, rfl, S7.seq (SqL.of hD9), at_of (Int.zero_add _) g1, _, rfl, 1, rfl, sz_n (by decide : 2 ≤ 1000), fun t1 n1 => ?_⟩
          have o1 := same_upd (o := .tup [.int (-1), .int 1]) n1
          have S8 := S7.trans o1
          refine ⟨vi, vm, .ref t1, p1, q1, e1, m, -1, rfl, r1.same S8, fm9.same S8, frv_new rfl rfl, b1, bm, bo, fun Hg vg tg rg => ?_⟩
          have S9 := S8.trans tg
          refine ⟨_, rfl, _, rfl, D, _, _, _, rfl, rfl, S9.seq (SqL.of hD9), at_of (Int.zero_add _) g2, _, rfl, 1, rfl, sz_n (by decide : 2 ≤ 1000), fun t2 n2 => ?_⟩
          have o2 := same_upd (o := .tup [.int (-1), .int 1]) n2
          have Sa := S9.trans o2
          refine ⟨vj, vm, .ref t2, p2, q2, e2, m, -1, rfl, r2.same Sa, fm9.same Sa, frv_new rfl rfl, b2, bm, bo, fun Hh vh th rh => ?_⟩
          refine ⟨vg, vh, _, _, _, _, _, _, rfl, rg.same (o2.trans th), rh, big b1 bo, big b2 bo, fun Hi ti => ?_⟩
          refine ⟨_, rfl, _, rfl, rfl, _, rfl, iteNS (congrArg V.int ?_) ?_⟩
          · rw [moved_val, moved_val, ← sgn_opp]
            have e1 : rat (-1) = -1 := by
              rw [rat_neg]
              rfl
            rw [e1]
            congr 1
            grind
          exact ⟨Sa.trans (th.trans ti), _, _, _, _, _, _, rfl⟩
        · obtain ⟨hS2, y1, y7, y8, y9, y10, y11, rfl⟩ := h
          exact ⟨hS2, _, _, _, _, _, _, _, rfl⟩
end

theorem all_mk {l : PySem.W.OpenLaw} {w : World} {K : PySem.W.Frag} {h : Heap} {mg : Str → Option Value} {fa : Addr} (X : K.In h) (G : h.Ns mainGlobals mg) (hfa : mg "law" = some (.ref fa))
    {C0 : Addr} (aC0 : PySem.W.nsIn K mainGlobals "Whole" = some (some (.ref C0))) (pg0 : PySem.W.plainGet K C0 Str.empty = true) (hd0 : PySem.W.hasDictIn K C0 = true) (po0 : PySem.W.plainOver K C0 = true) (sa0 : PySem.W.findIn K (.ref C0) "__setattr__" = some (some (.builtin "object.__setattr__"))) (mk0 : PySem.W.makesIn K C0 = true) (kc0 : PySem.W.keepIn K (.ref C0) = true)
    (oi0 : PySem.W.findIn K (.ref C0) "__init__" = some (some (.builtin "object.__init__")))
    {C1 : Addr} (aC1 : PySem.W.nsIn K mainGlobals "Rooted" = some (some (.ref C1))) (pg1 : PySem.W.plainGet K C1 Str.empty = true) (hd1 : PySem.W.hasDictIn K C1 = true) (po1 : PySem.W.plainOver K C1 = true) (sa1 : PySem.W.findIn K (.ref C1) "__setattr__" = some (some (.builtin "object.__setattr__"))) (mk1 : PySem.W.makesIn K C1 = true) (kc1 : PySem.W.keepIn K (.ref C1) = true)
    (n1_below : PySem.W.findIn K (.ref C1) "below" = some none)
    (n1_under : PySem.W.findIn K (.ref C1) "under" = some none)
    {f0 : Addr} {od0 an0 : Option Addr} {sl0 : Array (Option Value)} {oc0 kV0 dc0 pm0 cd0 ct0 : Value}
    (a0 : PySem.W.findIn K (.ref C0) "nought" = some (some (.ref f0))) (i0 : PySem.W.isFn K (.ref f0) = true) (l0 : K.lookup f0 = some ⟨oc0, od0, .func (PySem.W.fnOf "nought" "Whole.nought" (defArgs s_Whole_nought) (defBody s_Whole_nought) (defScope s_Whole_nought) .none kV0 dc0 pm0 an0 cd0 ct0), sl0⟩) (c0 : PySem.W.codeIn K cd0 "Whole.nought" = true) (k0 : PySem.W.keepIn K (.ref f0) = true)
    {f1 : Addr} {od1 an1 : Option Addr} {sl1 : Array (Option Value)} {oc1 kV1 dc1 pm1 cd1 ct1 : Value}
    (a1 : PySem.W.findIn K (.ref C0) "plus" = some (some (.ref f1))) (i1 : PySem.W.isFn K (.ref f1) = true) (l1 : K.lookup f1 = some ⟨oc1, od1, .func (PySem.W.fnOf "plus" "Whole.plus" (defArgs s_Whole_plus) (defBody s_Whole_plus) (defScope s_Whole_plus) .none kV1 dc1 pm1 an1 cd1 ct1), sl1⟩) (c1 : PySem.W.codeIn K cd1 "Whole.plus" = true) (k1 : PySem.W.keepIn K (.ref f1) = true)
    {f2 : Addr} {od2 an2 : Option Addr} {sl2 : Array (Option Value)} {oc2 kV2 dc2 pm2 cd2 ct2 : Value}
    (a2 : PySem.W.findIn K (.ref C0) "times" = some (some (.ref f2))) (i2 : PySem.W.isFn K (.ref f2) = true) (l2 : K.lookup f2 = some ⟨oc2, od2, .func (PySem.W.fnOf "times" "Whole.times" (defArgs s_Whole_times) (defBody s_Whole_times) (defScope s_Whole_times) .none kV2 dc2 pm2 an2 cd2 ct2), sl2⟩) (c2 : PySem.W.codeIn K cd2 "Whole.times" = true) (k2 : PySem.W.keepIn K (.ref f2) = true)
    {f3 : Addr} {od3 an3 : Option Addr} {sl3 : Array (Option Value)} {oc3 kV3 dc3 pm3 cd3 ct3 : Value}
    (a3 : PySem.W.findIn K (.ref C0) "scaled" = some (some (.ref f3))) (i3 : PySem.W.isFn K (.ref f3) = true) (l3 : K.lookup f3 = some ⟨oc3, od3, .func (PySem.W.fnOf "scaled" "Whole.scaled" (defArgs s_Whole_scaled) (defBody s_Whole_scaled) (defScope s_Whole_scaled) .none kV3 dc3 pm3 an3 cd3 ct3), sl3⟩) (c3 : PySem.W.codeIn K cd3 "Whole.scaled" = true) (k3 : PySem.W.keepIn K (.ref f3) = true)
    {f4 : Addr} {od4 an4 : Option Addr} {sl4 : Array (Option Value)} {oc4 kV4 dc4 pm4 cd4 ct4 : Value}
    (a4 : PySem.W.findIn K (.ref C0) "sign" = some (some (.ref f4))) (i4 : PySem.W.isFn K (.ref f4) = true) (l4 : K.lookup f4 = some ⟨oc4, od4, .func (PySem.W.fnOf "sign" "Whole.sign" (defArgs s_Whole_sign) (defBody s_Whole_sign) (defScope s_Whole_sign) .none kV4 dc4 pm4 an4 cd4 ct4), sl4⟩) (c4 : PySem.W.codeIn K cd4 "Whole.sign" = true) (k4 : PySem.W.keepIn K (.ref f4) = true)
    {f5 : Addr} {od5 an5 : Option Addr} {sl5 : Array (Option Value)} {oc5 kV5 dc5 pm5 cd5 ct5 : Value}
    (a5 : PySem.W.findIn K (.ref C1) "__init__" = some (some (.ref f5))) (i5 : PySem.W.isFn K (.ref f5) = true) (l5 : K.lookup f5 = some ⟨oc5, od5, .func (PySem.W.fnOf "__init__" "Rooted.__init__" (defArgs s_Rooted___init__) (defBody s_Rooted___init__) (defScope s_Rooted___init__) .none kV5 dc5 pm5 an5 cd5 ct5), sl5⟩) (c5 : PySem.W.codeIn K cd5 "Rooted.__init__" = true) (k5 : PySem.W.keepIn K (.ref f5) = true)
    {f6 : Addr} {od6 an6 : Option Addr} {sl6 : Array (Option Value)} {oc6 kV6 dc6 pm6 cd6 ct6 : Value}
    (a6 : PySem.W.findIn K (.ref C1) "nought" = some (some (.ref f6))) (i6 : PySem.W.isFn K (.ref f6) = true) (l6 : K.lookup f6 = some ⟨oc6, od6, .func (PySem.W.fnOf "nought" "Rooted.nought" (defArgs s_Rooted_nought) (defBody s_Rooted_nought) (defScope s_Rooted_nought) .none kV6 dc6 pm6 an6 cd6 ct6), sl6⟩) (c6 : PySem.W.codeIn K cd6 "Rooted.nought" = true) (k6 : PySem.W.keepIn K (.ref f6) = true)
    {f7 : Addr} {od7 an7 : Option Addr} {sl7 : Array (Option Value)} {oc7 kV7 dc7 pm7 cd7 ct7 : Value}
    (a7 : PySem.W.findIn K (.ref C1) "lifted" = some (some (.ref f7))) (i7 : PySem.W.isFn K (.ref f7) = true) (l7 : K.lookup f7 = some ⟨oc7, od7, .func (PySem.W.fnOf "lifted" "Rooted.lifted" (defArgs s_Rooted_lifted) (defBody s_Rooted_lifted) (defScope s_Rooted_lifted) .none kV7 dc7 pm7 an7 cd7 ct7), sl7⟩) (c7 : PySem.W.codeIn K cd7 "Rooted.lifted" = true) (k7 : PySem.W.keepIn K (.ref f7) = true)
    {f8 : Addr} {od8 an8 : Option Addr} {sl8 : Array (Option Value)} {oc8 kV8 dc8 pm8 cd8 ct8 : Value}
    (a8 : PySem.W.findIn K (.ref C1) "plus" = some (some (.ref f8))) (i8 : PySem.W.isFn K (.ref f8) = true) (l8 : K.lookup f8 = some ⟨oc8, od8, .func (PySem.W.fnOf "plus" "Rooted.plus" (defArgs s_Rooted_plus) (defBody s_Rooted_plus) (defScope s_Rooted_plus) .none kV8 dc8 pm8 an8 cd8 ct8), sl8⟩) (c8 : PySem.W.codeIn K cd8 "Rooted.plus" = true) (k8 : PySem.W.keepIn K (.ref f8) = true)
    {f9 : Addr} {od9 an9 : Option Addr} {sl9 : Array (Option Value)} {oc9 kV9 dc9 pm9 cd9 ct9 : Value}
    (a9 : PySem.W.findIn K (.ref C1) "times" = some (some (.ref f9))) (i9 : PySem.W.isFn K (.ref f9) = true) (l9 : K.lookup f9 = some ⟨oc9, od9, .func (PySem.W.fnOf "times" "Rooted.times" (defArgs s_Rooted_times) (defBody s_Rooted_times) (defScope s_Rooted_times) .none kV9 dc9 pm9 an9 cd9 ct9), sl9⟩) (c9 : PySem.W.codeIn K cd9 "Rooted.times" = true) (k9 : PySem.W.keepIn K (.ref f9) = true)
    {f10 : Addr} {od10 an10 : Option Addr} {sl10 : Array (Option Value)} {oc10 kV10 dc10 pm10 cd10 ct10 : Value}
    (a10 : PySem.W.findIn K (.ref C1) "scaled" = some (some (.ref f10))) (i10 : PySem.W.isFn K (.ref f10) = true) (l10 : K.lookup f10 = some ⟨oc10, od10, .func (PySem.W.fnOf "scaled" "Rooted.scaled" (defArgs s_Rooted_scaled) (defBody s_Rooted_scaled) (defScope s_Rooted_scaled) .none kV10 dc10 pm10 an10 cd10 ct10), sl10⟩) (c10 : PySem.W.codeIn K cd10 "Rooted.scaled" = true) (k10 : PySem.W.keepIn K (.ref f10) = true)
    {f11 : Addr} {od11 an11 : Option Addr} {sl11 : Array (Option Value)} {oc11 kV11 dc11 pm11 cd11 ct11 : Value}
    (a11 : PySem.W.findIn K (.ref C1) "sign" = some (some (.ref f11))) (i11 : PySem.W.isFn K (.ref f11) = true) (l11 : K.lookup f11 = some ⟨oc11, od11, .func (PySem.W.fnOf "sign" "Rooted.sign" (defArgs s_Rooted_sign) (defBody s_Rooted_sign) (defScope s_Rooted_sign) .none kV11 dc11 pm11 an11 cd11 ct11), sl11⟩) (c11 : PySem.W.codeIn K cd11 "Rooted.sign" = true) (k11 : PySem.W.keepIn K (.ref f11) = true)
    {f12 : Addr} {od12 an12 : Option Addr} {sl12 : Array (Option Value)} {oc12 kV12 dc12 pm12 cd12 ct12 : Value}
    (a12 : PySem.W.nsIn K mainGlobals "compare" = some (some (.ref f12))) (l12 : K.lookup f12 = some ⟨oc12, od12, .func (PySem.W.fnOf "compare" "compare" (defArgs s_compare) (defBody s_compare) (defScope s_compare) .none kV12 dc12 pm12 an12 cd12 ct12), sl12⟩) (c12 : PySem.W.codeIn K cd12 "compare" = true) (k12 : PySem.W.keepIn K (.ref f12) = true)
    {f13 : Addr} {od13 an13 : Option Addr} {sl13 : Array (Option Value)} {oc13 kV13 dc13 pm13 cd13 ct13 : Value}
    (a13 : PySem.W.nsIn K mainGlobals "_law_cell" = some (some (.ref f13))) (l13 : K.lookup f13 = some ⟨oc13, od13, .func (PySem.W.fnOf "_law_cell" "_law_cell" (defArgs s__law_cell) (defBody s__law_cell) (defScope s__law_cell) .none kV13 dc13 pm13 an13 cd13 ct13), sl13⟩) (c13 : PySem.W.codeIn K cd13 "_law_cell" = true) (k13 : PySem.W.keepIn K (.ref f13) = true)
    {f14 : Addr} {od14 an14 : Option Addr} {sl14 : Array (Option Value)} {oc14 kV14 dc14 pm14 cd14 ct14 : Value}
    (a14 : PySem.W.nsIn K mainGlobals "_law_mixed" = some (some (.ref f14))) (l14 : K.lookup f14 = some ⟨oc14, od14, .func (PySem.W.fnOf "_law_mixed" "_law_mixed" (defArgs s__law_mixed) (defBody s__law_mixed) (defScope s__law_mixed) .none kV14 dc14 pm14 an14 cd14 ct14), sl14⟩) (c14 : PySem.W.codeIn K cd14 "_law_mixed" = true) (k14 : PySem.W.keepIn K (.ref f14) = true)
    {f15 : Addr} {od15 an15 : Option Addr} {sl15 : Array (Option Value)} {oc15 kV15 dc15 pm15 cd15 ct15 : Value}
    (a15 : PySem.W.nsIn K mainGlobals "_law_deck" = some (some (.ref f15))) (l15 : K.lookup f15 = some ⟨oc15, od15, .func (PySem.W.fnOf "_law_deck" "_law_deck" (defArgs s__law_deck) (defBody s__law_deck) (defScope s__law_deck) .none kV15 dc15 pm15 an15 cd15 ct15), sl15⟩) (c15 : PySem.W.codeIn K cd15 "_law_deck" = true) (k15 : PySem.W.keepIn K (.ref f15) = true)
    {f16 : Addr} {od16 an16 : Option Addr} {sl16 : Array (Option Value)} {oc16 kV16 dc16 pm16 cd16 ct16 : Value}
    (a16 : PySem.W.nsIn K mainGlobals "_law_take" = some (some (.ref f16))) (l16 : K.lookup f16 = some ⟨oc16, od16, .func (PySem.W.fnOf "_law_take" "_law_take" (defArgs s__law_take) (defBody s__law_take) (defScope s__law_take) .none kV16 dc16 pm16 an16 cd16 ct16), sl16⟩) (c16 : PySem.W.codeIn K cd16 "_law_take" = true) (k16 : PySem.W.keepIn K (.ref f16) = true)
    {f17 : Addr} {od17 an17 : Option Addr} {sl17 : Array (Option Value)} {oc17 kV17 dc17 pm17 cd17 ct17 : Value}
    (a17 : PySem.W.nsIn K mainGlobals "_law_gcd" = some (some (.ref f17))) (l17 : K.lookup f17 = some ⟨oc17, od17, .func (PySem.W.fnOf "_law_gcd" "_law_gcd" (defArgs s__law_gcd) (defBody s__law_gcd) (defScope s__law_gcd) .none kV17 dc17 pm17 an17 cd17 ct17), sl17⟩) (c17 : PySem.W.codeIn K cd17 "_law_gcd" = true) (k17 : PySem.W.keepIn K (.ref f17) = true)
    {f18 : Addr} {od18 an18 : Option Addr} {sl18 : Array (Option Value)} {oc18 kV18 dc18 pm18 cd18 ct18 : Value}
    (a18 : PySem.W.nsIn K mainGlobals "_law_share" = some (some (.ref f18))) (l18 : K.lookup f18 = some ⟨oc18, od18, .func (PySem.W.fnOf "_law_share" "_law_share" (defArgs s__law_share) (defBody s__law_share) (defScope s__law_share) .none kV18 dc18 pm18 an18 cd18 ct18), sl18⟩) (c18 : PySem.W.codeIn K cd18 "_law_share" = true) (k18 : PySem.W.keepIn K (.ref f18) = true)
    {f19 : Addr} {od19 an19 : Option Addr} {sl19 : Array (Option Value)} {oc19 kV19 dc19 pm19 cd19 ct19 : Value}
    (a19 : PySem.W.nsIn K mainGlobals "_law_plus" = some (some (.ref f19))) (l19 : K.lookup f19 = some ⟨oc19, od19, .func (PySem.W.fnOf "_law_plus" "_law_plus" (defArgs s__law_plus) (defBody s__law_plus) (defScope s__law_plus) .none kV19 dc19 pm19 an19 cd19 ct19), sl19⟩) (c19 : PySem.W.codeIn K cd19 "_law_plus" = true) (k19 : PySem.W.keepIn K (.ref f19) = true)
    {f20 : Addr} {od20 an20 : Option Addr} {sl20 : Array (Option Value)} {oc20 kV20 dc20 pm20 cd20 ct20 : Value}
    (a20 : PySem.W.nsIn K mainGlobals "_law_times" = some (some (.ref f20))) (l20 : K.lookup f20 = some ⟨oc20, od20, .func (PySem.W.fnOf "_law_times" "_law_times" (defArgs s__law_times) (defBody s__law_times) (defScope s__law_times) .none kV20 dc20 pm20 an20 cd20 ct20), sl20⟩) (c20 : PySem.W.codeIn K cd20 "_law_times" = true) (k20 : PySem.W.keepIn K (.ref f20) = true)
    {f21 : Addr} {od21 an21 : Option Addr} {sl21 : Array (Option Value)} {oc21 kV21 dc21 pm21 cd21 ct21 : Value}
    (a21 : PySem.W.nsIn K mainGlobals "_law_figures" = some (some (.ref f21))) (l21 : K.lookup f21 = some ⟨oc21, od21, .func (PySem.W.fnOf "_law_figures" "_law_figures" (defArgs s__law_figures) (defBody s__law_figures) (defScope s__law_figures) .none kV21 dc21 pm21 an21 cd21 ct21), sl21⟩) (c21 : PySem.W.codeIn K cd21 "_law_figures" = true) (k21 : PySem.W.keepIn K (.ref f21) = true)
    {f22 : Addr} {od22 an22 : Option Addr} {sl22 : Array (Option Value)} {oc22 kV22 dc22 pm22 cd22 ct22 : Value}
    (a22 : PySem.W.nsIn K mainGlobals "_law_fraction" = some (some (.ref f22))) (l22 : K.lookup f22 = some ⟨oc22, od22, .func (PySem.W.fnOf "_law_fraction" "_law_fraction" (defArgs s__law_fraction) (defBody s__law_fraction) (defScope s__law_fraction) .none kV22 dc22 pm22 an22 cd22 ct22), sl22⟩) (c22 : PySem.W.codeIn K cd22 "_law_fraction" = true) (k22 : PySem.W.keepIn K (.ref f22) = true)
    {f23 : Addr} {od23 an23 : Option Addr} {sl23 : Array (Option Value)} {oc23 kV23 dc23 pm23 cd23 ct23 : Value}
    (a23 : PySem.W.nsIn K mainGlobals "_law_number" = some (some (.ref f23))) (l23 : K.lookup f23 = some ⟨oc23, od23, .func (PySem.W.fnOf "_law_number" "_law_number" (defArgs s__law_number) (defBody s__law_number) (defScope s__law_number) .none kV23 dc23 pm23 an23 cd23 ct23), sl23⟩) (c23 : PySem.W.codeIn K cd23 "_law_number" = true) (k23 : PySem.W.keepIn K (.ref f23) = true)
    {f24 : Addr} {od24 an24 : Option Addr} {sl24 : Array (Option Value)} {oc24 kV24 dc24 pm24 cd24 ct24 : Value}
    (a24 : PySem.W.nsIn K mainGlobals "_law_moved" = some (some (.ref f24))) (l24 : K.lookup f24 = some ⟨oc24, od24, .func (PySem.W.fnOf "_law_moved" "_law_moved" (defArgs s__law_moved) (defBody s__law_moved) (defScope s__law_moved) .none kV24 dc24 pm24 an24 cd24 ct24), sl24⟩) (c24 : PySem.W.codeIn K cd24 "_law_moved" = true) (k24 : PySem.W.keepIn K (.ref f24) = true)
    {f25 : Addr} {od25 an25 : Option Addr} {sl25 : Array (Option Value)} {oc25 kV25 dc25 pm25 cd25 ct25 : Value}
    (a25 : PySem.W.nsIn K mainGlobals "_law_same_written" = some (some (.ref f25))) (l25 : K.lookup f25 = some ⟨oc25, od25, .func (PySem.W.fnOf "_law_same_written" "_law_same_written" (defArgs s__law_same_written) (defBody s__law_same_written) (defScope s__law_same_written) .none kV25 dc25 pm25 an25 cd25 ct25), sl25⟩) (c25 : PySem.W.codeIn K cd25 "_law_same_written" = true) (k25 : PySem.W.keepIn K (.ref f25) = true)
    {f26 : Addr} {od26 an26 : Option Addr} {sl26 : Array (Option Value)} {oc26 kV26 dc26 pm26 cd26 ct26 : Value}
    (a26 : PySem.W.nsIn K mainGlobals "law" = some (some (.ref f26))) (l26 : K.lookup f26 = some ⟨oc26, od26, .func (PySem.W.fnOf "law" "law" (defArgs s_law) (defBody s_law) (defScope s_law) .none kV26 dc26 pm26 an26 cd26 ct26), sl26⟩) (c26 : PySem.W.codeIn K cd26 "law" = true) (k26 : PySem.W.keepIn K (.ref f26) = true)
    (z0 : PySem.W.nsIn K mainGlobals "abs" = some none)
    (z1 : PySem.W.nsIn K mainGlobals "int" = some none)
    (z2 : PySem.W.nsIn K mainGlobals "len" = some none)
    (z3 : PySem.W.nsIn K mainGlobals "max" = some none)
    (z4 : PySem.W.nsIn K mainGlobals "range" = some none)
    : ∃ fd : FuncData, (∀ (s : Shared) (v : Value), BindsTo s fd ⟨[v], []⟩ [("_law_script", v)]) ∧ ∀ base : Heap, K.In base → base.Ns mainGlobals mg → FnOk l.prog w K mg base CX0 7 fa fd ["_law_script"] (sp_law K) := by
  have e := hfa.symm.trans (PySem.W.mg_of X G a26)
  cases e
  have F0 := fun_mk (st := s_Whole_nought) l0 c0 k0
  have b0 := F0.binds (ps := ["self"]) fun _ _ _ _ _ _ us hl => match us, hl with | [_], _ => rfl
  have F1 := fun_mk (st := s_Whole_plus) l1 c1 k1
  have b1 := F1.binds (ps := ["self", "one", "other"]) fun _ _ _ _ _ _ us hl => match us, hl with | [_, _, _], _ => rfl
  have F2 := fun_mk (st := s_Whole_times) l2 c2 k2
  have b2 := F2.binds (ps := ["self", "one", "other"]) fun _ _ _ _ _ _ us hl => match us, hl with | [_, _, _], _ => rfl
  have F3 := fun_mk (st := s_Whole_scaled) l3 c3 k3
  have b3 := F3.binds (ps := ["self", "one", "by"]) fun _ _ _ _ _ _ us hl => match us, hl with | [_, _, _], _ => rfl
  have F4 := fun_mk (st := s_Whole_sign) l4 c4 k4
  have b4 := F4.binds (ps := ["self", "one"]) fun _ _ _ _ _ _ us hl => match us, hl with | [_, _], _ => rfl
  have F5 := fun_mk (st := s_Rooted___init__) l5 c5 k5
  have b5 := F5.binds (ps := ["self", "below", "under"]) fun _ _ _ _ _ _ us hl => match us, hl with | [_, _, _], _ => rfl
  have F6 := fun_mk (st := s_Rooted_nought) l6 c6 k6
  have b6 := F6.binds (ps := ["self"]) fun _ _ _ _ _ _ us hl => match us, hl with | [_], _ => rfl
  have F7 := fun_mk (st := s_Rooted_lifted) l7 c7 k7
  have b7 := F7.binds (ps := ["self", "one"]) fun _ _ _ _ _ _ us hl => match us, hl with | [_, _], _ => rfl
  have F8 := fun_mk (st := s_Rooted_plus) l8 c8 k8
  have b8 := F8.binds (ps := ["self", "one", "other"]) fun _ _ _ _ _ _ us hl => match us, hl with | [_, _, _], _ => rfl
  have F9 := fun_mk (st := s_Rooted_times) l9 c9 k9
  have b9 := F9.binds (ps := ["self", "one", "other"]) fun _ _ _ _ _ _ us hl => match us, hl with | [_, _, _], _ => rfl
  have F10 := fun_mk (st := s_Rooted_scaled) l10 c10 k10
  have b10 := F10.binds (ps := ["self", "one", "by"]) fun _ _ _ _ _ _ us hl => match us, hl with | [_, _, _], _ => rfl
  have F11 := fun_mk (st := s_Rooted_sign) l11 c11 k11
  have b11 := F11.binds (ps := ["self", "one"]) fun _ _ _ _ _ _ us hl => match us, hl with | [_, _], _ => rfl
  have F12 := fun_mk (st := s_compare) l12 c12 k12
  have b12 := F12.binds (ps := ["one", "other"]) fun _ _ _ _ _ _ us hl => match us, hl with | [_, _], _ => rfl
  have F13 := fun_mk (st := s__law_cell) l13 c13 k13
  have b13 := F13.binds (ps := ["_law_script", "_law_k"]) fun _ _ _ _ _ _ us hl => match us, hl with | [_, _], _ => rfl
  have F14 := fun_mk (st := s__law_mixed) l14 c14 k14
  have b14 := F14.binds (ps := ["_law_script", "_law_k", "_law_many"]) fun _ _ _ _ _ _ us hl => match us, hl with | [_, _, _], _ => rfl
  have F15 := fun_mk (st := s__law_deck) l15 c15 k15
  have b15 := F15.binds (ps := ["_law_script"]) fun _ _ _ _ _ _ us hl => match us, hl with | [_], _ => rfl
  have F16 := fun_mk (st := s__law_take) l16 c16 k16
  have b16 := F16.binds (ps := ["_law_deck_here", "_law_many"]) fun _ _ _ _ _ _ us hl => match us, hl with | [_, _], _ => rfl
  have F17 := fun_mk (st := s__law_gcd) l17 c17 k17
  have b17 := F17.binds (ps := ["_law_one", "_law_other"]) fun _ _ _ _ _ _ us hl => match us, hl with | [_, _], _ => rfl
  have F18 := fun_mk (st := s__law_share) l18 c18 k18
  have b18 := F18.binds (ps := ["_law_top", "_law_bottom"]) fun _ _ _ _ _ _ us hl => match us, hl with | [_, _], _ => rfl
  have F19 := fun_mk (st := s__law_plus) l19 c19 k19
  have b19 := F19.binds (ps := ["_law_one", "_law_other"]) fun _ _ _ _ _ _ us hl => match us, hl with | [_, _], _ => rfl
  have F20 := fun_mk (st := s__law_times) l20 c20 k20
  have b20 := F20.binds (ps := ["_law_one", "_law_other"]) fun _ _ _ _ _ _ us hl => match us, hl with | [_, _], _ => rfl
  have F21 := fun_mk (st := s__law_figures) l21 c21 k21
  have b21 := F21.binds (ps := ["_law_deck_here"]) fun _ _ _ _ _ _ us hl => match us, hl with | [_], _ => rfl
  have F22 := fun_mk (st := s__law_fraction) l22 c22 k22
  have b22 := F22.binds (ps := ["_law_deck_here"]) fun _ _ _ _ _ _ us hl => match us, hl with | [_], _ => rfl
  have F23 := fun_mk (st := s__law_number) l23 c23 k23
  have b23 := F23.binds (ps := ["_law_deck_here"]) fun _ _ _ _ _ _ us hl => match us, hl with | [_], _ => rfl
  have F24 := fun_mk (st := s__law_moved) l24 c24 k24
  have b24 := F24.binds (ps := ["_law_number_here", "_law_more", "_law_size"]) fun _ _ _ _ _ _ us hl => match us, hl with | [_, _, _], _ => rfl
  have F25 := fun_mk (st := s__law_same_written) l25 c25 k25
  have b25 := F25.binds (ps := ["_law_deck_here", "_law_number_here"]) fun _ _ _ _ _ _ us hl => match us, hl with | [_, _], _ => rfl
  have F26 := fun_mk (st := s_law) l26 c26 k26
  have T : Tx K mg := ⟨C0, ⟨pg0, hd0, po0, sa0⟩, PySem.W.mg_of X G aC0, C1, ⟨pg1, hd1, po1, sa1⟩, PySem.W.mg_of X G aC1, n1_below, n1_under, f0, _, F0, b0, ⟨a0, i0, k0⟩, f1, _, F1, b1, ⟨a1, i1, k1⟩, f2, _, F2, b2, ⟨a2, i2, k2⟩, f3, _, F3, b3, ⟨a3, i3, k3⟩, f4, _, F4, b4, ⟨a4, i4, k4⟩, f5, _, F5, b5, ⟨mk1, a5, i5, kc1⟩, f6, _, F6, b6, ⟨a6, i6, k6⟩, f7, _, F7, b7, ⟨a7, i7, k7⟩, f8, _, F8, b8, ⟨a8, i8, k8⟩, f9, _, F9, b9, ⟨a9, i9, k9⟩, f10, _, F10, b10, ⟨a10, i10, k10⟩, f11, _, F11, b11, ⟨a11, i11, k11⟩, f12, _, F12, b12, PySem.W.mg_of X G a12, f13, _, F13, b13, PySem.W.mg_of X G a13, f14, _, F14, b14, PySem.W.mg_of X G a14, f15, _, F15, b15, PySem.W.mg_of X G a15, f16, _, F16, b16, PySem.W.mg_of X G a16, f17, _, F17, b17, PySem.W.mg_of X G a17, f18, _, F18, b18, PySem.W.mg_of X G a18, f19, _, F19, b19, PySem.W.mg_of X G a19, f20, _, F20, b20, PySem.W.mg_of X G a20, f21, _, F21, b21, PySem.W.mg_of X G a21, f22, _, F22, b22, PySem.W.mg_of X G a22, f23, _, F23, b23, PySem.W.mg_of X G a23, f24, _, F24, b24, PySem.W.mg_of X G a24, f25, _, F25, b25, PySem.W.mg_of X G a25, ⟨mk0, oi0, kc0⟩, PySem.W.mg_none_of X G z0, PySem.W.mg_none_of X G z1, PySem.W.mg_none_of X G z2, PySem.W.mg_none_of X G z3, PySem.W.mg_none_of X G z4⟩
  exact ⟨PySem.W.fnOf "law" "law" (defArgs s_law) (defBody s_law) (defScope s_law) .none kV26 dc26 pm26 an26 cd26 ct26, fun s v => .of_eq rfl, fun base _ _ => ok_law F26 T⟩
end Sc
open PySem PySem.W PyProof.Rows
set_option maxHeartbeats 0 in
theorem PySem.Challenge.cw_scenetongue_k06_whole_one_order_holds : PySem.Challenge.rw_scenetongue_k06_whole_one_order.Holds := by
  w_on; o_law; k_head; (case hw => w_witness2)
  k_fill
  refine L2.walk_of (l := PySem.Challenge.rw_scenetongue_k06_whole_one_order) (n := 63) (k := 7) (x := "_law_script") (CX := fun _ => L2.CX0) (sp := fun w => Sc.sp_law _) rfl (by decide) rfl ⟨rfl, by decide, by decide⟩ (fun w h Y => PySem.W.kIn_of Y) ?F (fun _ _ a ns hl _ hS => ⟨a, ns, rfl, hS, hl, fun _ => rfl⟩) (fun _ _ _ _ _ h => h)
  case F =>
    intro w mg fa h KX G hmg
    refine' Sc.all_mk KX G hmg ?aC0 ?pg0 ?hd0 ?po0 ?sa0 ?mk0 ?kc0 ?oi0 ?aC1 ?pg1 ?hd1 ?po1 ?sa1 ?mk1 ?kc1 ?n1_below ?n1_under ?a0 ?i0 ?l0 ?c0 ?k0 ?a1 ?i1 ?l1 ?c1 ?k1 ?a2 ?i2 ?l2 ?c2 ?k2 ?a3 ?i3 ?l3 ?c3 ?k3 ?a4 ?i4 ?l4 ?c4 ?k4 ?a5 ?i5 ?l5 ?c5 ?k5 ?a6 ?i6 ?l6 ?c6 ?k6 ?a7 ?i7 ?l7 ?c7 ?k7 ?a8 ?i8 ?l8 ?c8 ?k8 ?a9 ?i9 ?l9 ?c9 ?k9 ?a10 ?i10 ?l10 ?c10 ?k10 ?a11 ?i11 ?l11 ?c11 ?k11 ?a12 ?l12 ?c12 ?k12 ?a13 ?l13 ?c13 ?k13 ?a14 ?l14 ?c14 ?k14 ?a15 ?l15 ?c15 ?k15 ?a16 ?l16 ?c16 ?k16 ?a17 ?l17 ?c17 ?k17 ?a18 ?l18 ?c18 ?k18 ?a19 ?l19 ?c19 ?k19 ?a20 ?l20 ?c20 ?k20 ?a21 ?l21 ?c21 ?k21 ?a22 ?l22 ?c22 ?k22 ?a23 ?l23 ?c23 ?k23 ?a24 ?l24 ?c24 ?k24 ?a25 ?l25 ?c25 ?k25 ?a26 ?l26 ?c26 ?k26 ?z0 ?z1 ?z2 ?z3 ?z4
    (case aC0 => k_is); (case pg0 => k_is); (case hd0 => k_is); (case po0 => k_is); (case sa0 => k_is); (case mk0 => k_is); (case kc0 => k_is); (case oi0 => k_is); (case aC1 => k_is); (case pg1 => k_is); (case hd1 => k_is); (case po1 => k_is); (case sa1 => k_is); (case mk1 => k_is); (case kc1 => k_is); (case n1_below => k_is); (case n1_under => k_is); (case a0 => k_is); (case i0 => k_is); (case l0 => k_is); (case c0 => k_is); (case k0 => k_is); (case a1 => k_is); (case i1 => k_is); (case l1 => k_is); (case c1 => k_is); (case k1 => k_is); (case a2 => k_is); (case i2 => k_is); (case l2 => k_is); (case c2 => k_is); (case k2 => k_is); (case a3 => k_is); (case i3 => k_is); (case l3 => k_is); (case c3 => k_is); (case k3 => k_is); (case a4 => k_is); (case i4 => k_is); (case l4 => k_is); (case c4 => k_is); (case k4 => k_is); (case a5 => k_is); (case i5 => k_is); (case l5 => k_is); (case c5 => k_is); (case k5 => k_is); (case a6 => k_is); (case i6 => k_is); (case l6 => k_is); (case c6 => k_is); (case k6 => k_is); (case a7 => k_is); (case i7 => k_is); (case l7 => k_is); (case c7 => k_is); (case k7 => k_is); (case a8 => k_is); (case i8 => k_is); (case l8 => k_is); (case c8 => k_is); (case k8 => k_is); (case a9 => k_is); (case i9 => k_is); (case l9 => k_is); (case c9 => k_is); (case k9 => k_is); (case a10 => k_is); (case i10 => k_is); (case l10 => k_is); (case c10 => k_is); (case k10 => k_is); (case a11 => k_is); (case i11 => k_is); (case l11 => k_is); (case c11 => k_is); (case k11 => k_is); (case a12 => k_is); (case l12 => k_is); (case c12 => k_is); (case k12 => k_is); (case a13 => k_is); (case l13 => k_is); (case c13 => k_is); (case k13 => k_is); (case a14 => k_is); (case l14 => k_is); (case c14 => k_is); (case k14 => k_is); (case a15 => k_is); (case l15 => k_is); (case c15 => k_is); (case k15 => k_is); (case a16 => k_is); (case l16 => k_is); (case c16 => k_is); (case k16 => k_is); (case a17 => k_is); (case l17 => k_is); (case c17 => k_is); (case k17 => k_is); (case a18 => k_is); (case l18 => k_is); (case c18 => k_is); (case k18 => k_is); (case a19 => k_is); (case l19 => k_is); (case c19 => k_is); (case k19 => k_is); (case a20 => k_is); (case l20 => k_is); (case c20 => k_is); (case k20 => k_is); (case a21 => k_is); (case l21 => k_is); (case c21 => k_is); (case k21 => k_is); (case a22 => k_is); (case l22 => k_is); (case c22 => k_is); (case k22 => k_is); (case a23 => k_is); (case l23 => k_is); (case c23 => k_is); (case k23 => k_is); (case a24 => k_is); (case l24 => k_is); (case c24 => k_is); (case k24 => k_is); (case a25 => k_is); (case l25 => k_is); (case c25 => k_is); (case k25 => k_is); (case a26 => k_is); (case l26 => k_is); (case c26 => k_is); (case k26 => k_is); (case z0 => k_is); (case z1 => k_is); (case z2 => k_is); (case z3 => k_is); (case z4 => k_is)
