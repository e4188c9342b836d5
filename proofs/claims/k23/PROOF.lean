import PyProof.Rows.All
import Wide.All
import OpenK.AllK
import Wide.FinOn
import HandS.ForMost
import HandS.Wide
import HandS.WideBits
import HandS.IsInst
import HandS.Walk
import HandS.Zip
import HandS.Style
import HandS.Star
import HandS.More
import HandS.TupAny
import HandS.Comp
import HandS.NoneIn
import PySem.Challenge.RW_scenetongue_k23_single_bodies_laid
set_option Elab.async false
set_option linter.all false
set_option maxRecDepth 100000
set_option maxHeartbeats 4000000

namespace Sc
open PySem PySem.Spec PyProof.Rows L2

/-! ### data: tuples all through -/
/-- a tuple that stands for good: tracked, or of the written part -/
def TupAt (K : PySem.W.Frag) (H : Hp) (a : Addr) (xs : List V) : Prop := H a = some (.tup xs) ∨ ∀ H', SqT K H' a xs
mutual
inductive DT (K : PySem.W.Frag) (H : Hp) : V → PyData → Prop
  | non : DT K H .non .none
  | bl (b : Bool) : DT K H (.bl b) (.bool b)
  | int (i : Int) : DT K H (.int i) (.int i)
  | str (x : Str) : DT K H (.str x) (.str x)
  | tup {a : Addr} {xs : List V} {ds : List PyData} : TupAt K H a xs → DTs K H xs ds → DT K H (.ref a) (.tuple ds)
inductive DTs (K : PySem.W.Frag) (H : Hp) : List V → List PyData → Prop
  | nil : DTs K H [] []
  | cons {v : V} {vs : List V} {d : PyData} {ds : List PyData} : DT K H v d → DTs K H vs ds → DTs K H (v :: vs) (d :: ds)
end
theorem dt_written {K : PySem.W.Frag} {H : Hp} {q : Addr} {od : Option Addr} {its : Array Value} {n : Nat} {sl : Array (Option Value)} {xs : List V} {ds : List PyData}
    (k : K.lookup q = some ⟨.type "tuple", od, .seq its n, sl⟩) (hz : its.size ≤ sizeLine) (hd : DTs K H xs ds) (rel : Vals xs its.toList) : DT K H (.ref q) (.tuple ds) :=
  .tup (.inr fun _ => .inr ⟨_, its, n, k, rfl, rfl, hz, rel⟩) hd

def topS (i : Nat) : Stmt := PySem.Challenge.pw_scenetongue_k23_single_bodies_laid.main.body.getD i (.Pass ⟨0, 0, 0, 0⟩)
abbrev s_frac : Stmt := topS 2
abbrev nm_frac : List Str := ["above", "below", "shared", "rest"]
theorem sc_frac : FnScope nm_frac ["above", "below"] (defScope s_frac) := ⟨rfl, rfl, rfl, by decide +kernel, rfl, by decide +kernel, by decide +kernel⟩
abbrev s_plus : Stmt := topS 3
abbrev nm_plus : List Str := ["one", "other"]
theorem sc_plus : FnScope nm_plus ["one", "other"] (defScope s_plus) := ⟨rfl, rfl, rfl, by decide +kernel, rfl, by decide +kernel, by decide +kernel⟩
abbrev s_minus : Stmt := topS 4
abbrev nm_minus : List Str := ["one", "other"]
theorem sc_minus : FnScope nm_minus ["one", "other"] (defScope s_minus) := ⟨rfl, rfl, rfl, by decide +kernel, rfl, by decide +kernel, by decide +kernel⟩
abbrev s_times : Stmt := topS 5
abbrev nm_times : List Str := ["one", "other"]
theorem sc_times : FnScope nm_times ["one", "other"] (defScope s_times) := ⟨rfl, rfl, rfl, by decide +kernel, rfl, by decide +kernel, by decide +kernel⟩
abbrev s_dot : Stmt := topS 6
abbrev nm_dot : List Str := ["one", "other", "above", "below", "mine", "yours", "part"]
theorem sc_dot : FnScope nm_dot ["one", "other"] (defScope s_dot) := ⟨rfl, rfl, rfl, by decide +kernel, rfl, by decide +kernel, by decide +kernel⟩
abbrev s_together : Stmt := topS 8
abbrev nm_together : List Str := ["one", "other"]
theorem sc_together : FnScope nm_together ["one", "other"] (defScope s_together) := ⟨rfl, rfl, rfl, by decide +kernel, rfl, by decide +kernel, by decide +kernel⟩
abbrev s_stretched : Stmt := topS 9
abbrev nm_stretched : List Str := ["way", "by"]
theorem sc_stretched : FnScope nm_stretched ["way", "by"] (defScope s_stretched) := ⟨rfl, rfl, rfl, by decide +kernel, rfl, by decide +kernel, by decide +kernel⟩
abbrev s_turned : Stmt := topS 10
abbrev nm_turned : List Str := ["turn", "way"]
theorem sc_turned : FnScope nm_turned ["turn", "way"] (defScope s_turned) := ⟨rfl, rfl, rfl, by decide +kernel, rfl, by decide +kernel, by decide +kernel⟩
abbrev s_columns_of : Stmt := topS 11
abbrev nm_columns_of : List Str := ["turn"]
theorem sc_columns_of : FnScope nm_columns_of ["turn"] (defScope s_columns_of) := ⟨rfl, rfl, rfl, by decide +kernel, rfl, by decide +kernel, by decide +kernel⟩
abbrev s_turn_about : Stmt := topS 16
abbrev nm_turn_about : List Str := ["axis", "cosine", "sine", "back"]
theorem sc_turn_about : FnScope nm_turn_about ["axis", "cosine", "sine"] (defScope s_turn_about) := ⟨rfl, rfl, rfl, by decide +kernel, rfl, by decide +kernel, by decide +kernel⟩
abbrev s_one_behind_other : Stmt := topS 17
abbrev nm_one_behind_other : List Str := ["outer", "inner", "columns", "row"]
theorem sc_one_behind_other : FnScope nm_one_behind_other ["outer", "inner"] (defScope s_one_behind_other) := ⟨rfl, rfl, rfl, by decide +kernel, rfl, by decide +kernel, by decide +kernel⟩
abbrev s_lay : Stmt := topS 18
abbrev nm_lay : List Str := ["bodies", "number", "turn", "slide", "leaves", "name", "form", "word", "first", "second"]
theorem sc_lay : FnScope nm_lay ["bodies", "number", "turn", "slide", "leaves"] (defScope s_lay) := ⟨rfl, rfl, rfl, by decide +kernel, rfl, by decide +kernel, by decide +kernel⟩
abbrev s_name_of : Stmt := topS 19
abbrev nm_name_of : List Str := ["scene", "thing"]
theorem sc_name_of : FnScope nm_name_of ["scene", "thing"] (defScope s_name_of) := ⟨rfl, rfl, rfl, by decide +kernel, rfl, by decide +kernel, by decide +kernel⟩
abbrev s_laid_thing : Stmt := topS 20
abbrev nm_laid_thing : List Str := ["scene", "thing", "moment", "leaves", "shape"]
theorem sc_laid_thing : FnScope nm_laid_thing ["scene", "thing", "moment"] (defScope s_laid_thing) := ⟨rfl, rfl, rfl, by decide +kernel, rfl, by decide +kernel, by decide +kernel⟩
abbrev s_laid_out : Stmt := topS 21
abbrev nm_laid_out : List Str := ["scene", "name", "moment", "named", "thing"]
theorem sc_laid_out : FnScope nm_laid_out ["scene", "name", "moment"] (defScope s_laid_out) := ⟨rfl, rfl, rfl, by decide +kernel, rfl, by decide +kernel, by decide +kernel⟩
abbrev s__law_cell : Stmt := topS 23
abbrev nm__law_cell : List Str := ["_law_script", "_law_k"]
theorem sc__law_cell : FnScope nm__law_cell ["_law_script", "_law_k"] (defScope s__law_cell) := ⟨rfl, rfl, rfl, by decide +kernel, rfl, by decide +kernel, by decide +kernel⟩
abbrev s__law_mixed : Stmt := topS 24
abbrev nm__law_mixed : List Str := ["_law_script", "_law_k", "_law_many_here", "_law_drawn", "_law_low", "_law_number_here"]
theorem sc__law_mixed : FnScope nm__law_mixed ["_law_script", "_law_k", "_law_many_here"] (defScope s__law_mixed) := ⟨rfl, rfl, rfl, by decide +kernel, rfl, by decide +kernel, by decide +kernel⟩
abbrev s__law_deck : Stmt := topS 25
abbrev nm__law_deck : List Str := ["_law_script", "_law_one"]
theorem sc__law_deck : FnScope nm__law_deck ["_law_script"] (defScope s__law_deck) := ⟨rfl, rfl, rfl, by decide +kernel, rfl, by decide +kernel, by decide +kernel⟩
abbrev s__law_take : Stmt := topS 26
abbrev nm__law_take : List Str := ["_law_deck_here", "_law_many_here", "_law_drawn"]
theorem sc__law_take : FnScope nm__law_take ["_law_deck_here", "_law_many_here"] (defScope s__law_take) := ⟨rfl, rfl, rfl, by decide +kernel, rfl, by decide +kernel, by decide +kernel⟩
abbrev s__law_alike : Stmt := topS 27
abbrev nm__law_alike : List Str := ["_law_found", "_law_due", "_law_k"]
theorem sc__law_alike : FnScope nm__law_alike ["_law_found", "_law_due"] (defScope s__law_alike) := ⟨rfl, rfl, rfl, by decide +kernel, rfl, by decide +kernel, by decide +kernel⟩
abbrev s__law_gcd : Stmt := topS 28
abbrev nm__law_gcd : List Str := ["_law_one", "_law_other", "_law_rest"]
theorem sc__law_gcd : FnScope nm__law_gcd ["_law_one", "_law_other"] (defScope s__law_gcd) := ⟨rfl, rfl, rfl, by decide +kernel, rfl, by decide +kernel, by decide +kernel⟩
abbrev s__law_frac : Stmt := topS 29
abbrev nm__law_frac : List Str := ["_law_above", "_law_below", "_law_part"]
theorem sc__law_frac : FnScope nm__law_frac ["_law_above", "_law_below"] (defScope s__law_frac) := ⟨rfl, rfl, rfl, by decide +kernel, rfl, by decide +kernel, by decide +kernel⟩
abbrev s__law_plus : Stmt := topS 30
abbrev nm__law_plus : List Str := ["_law_one", "_law_other"]
theorem sc__law_plus : FnScope nm__law_plus ["_law_one", "_law_other"] (defScope s__law_plus) := ⟨rfl, rfl, rfl, by decide +kernel, rfl, by decide +kernel, by decide +kernel⟩
abbrev s__law_times : Stmt := topS 31
abbrev nm__law_times : List Str := ["_law_one", "_law_other"]
theorem sc__law_times : FnScope nm__law_times ["_law_one", "_law_other"] (defScope s__law_times) := ⟨rfl, rfl, rfl, by decide +kernel, rfl, by decide +kernel, by decide +kernel⟩
abbrev s__law_added : Stmt := topS 33
abbrev nm__law_added : List Str := ["_law_one", "_law_other", "_law_k"]
theorem sc__law_added : FnScope nm__law_added ["_law_one", "_law_other"] (defScope s__law_added) := ⟨rfl, rfl, rfl, by decide +kernel, rfl, by decide +kernel, by decide +kernel⟩
abbrev s__law_many : Stmt := topS 35
abbrev nm__law_many : List Str := ["_law_point_here", "_law_number_here", "_law_part"]
theorem sc__law_many : FnScope nm__law_many ["_law_point_here", "_law_number_here"] (defScope s__law_many) := ⟨rfl, rfl, rfl, by decide +kernel, rfl, by decide +kernel, by decide +kernel⟩
abbrev s__law_number : Stmt := topS 36
abbrev nm__law_number : List Str := ["_law_deck_here"]
theorem sc__law_number : FnScope nm__law_number ["_law_deck_here"] (defScope s__law_number) := ⟨rfl, rfl, rfl, by decide +kernel, rfl, by decide +kernel, by decide +kernel⟩
abbrev s__law_point : Stmt := topS 37
abbrev nm__law_point : List Str := ["_law_deck_here"]
theorem sc__law_point : FnScope nm__law_point ["_law_deck_here"] (defScope s__law_point) := ⟨rfl, rfl, rfl, by decide +kernel, rfl, by decide +kernel, by decide +kernel⟩
abbrev s__law_size : Stmt := topS 38
abbrev nm__law_size : List Str := ["_law_deck_here"]
theorem sc__law_size : FnScope nm__law_size ["_law_deck_here"] (defScope s__law_size) := ⟨rfl, rfl, rfl, by decide +kernel, rfl, by decide +kernel, by decide +kernel⟩
abbrev s__law_base : Stmt := topS 39
abbrev nm__law_base : List Str := ["_law_deck_here", "_law_kind", "_law_point_here"]
theorem sc__law_base : FnScope nm__law_base ["_law_deck_here"] (defScope s__law_base) := ⟨rfl, rfl, rfl, by decide +kernel, rfl, by decide +kernel, by decide +kernel⟩
abbrev s__law_right : Stmt := topS 42
abbrev nm__law_right : List Str := ["_law_scene", "_law_thing", "_law_moment", "_law_nought", "_law_one", "_law_still", "_law_name", "_law_form", "_law_due"]
theorem sc__law_right : FnScope nm__law_right ["_law_scene", "_law_thing", "_law_moment"] (defScope s__law_right) := ⟨rfl, rfl, rfl, by decide +kernel, rfl, by decide +kernel, by decide +kernel⟩
abbrev s_law : Stmt := topS 43
abbrev nm_law : List Str := ["_law_script", "_law_deck_here", "_law_bodies", "_law_things", "_law_k", "_law_move", "_law_scene", "_law_thing", "_law_moment"]
theorem sc_law : FnScope nm_law ["_law_script"] (defScope s_law) := ⟨rfl, rfl, rfl, by decide +kernel, rfl, by decide +kernel, by decide +kernel⟩
structure Tx (K : PySem.W.Frag) (mg : Str → Option Value) (w : World) where
  a_NOUGHT : Addr
  g_NOUGHT : mg "NOUGHT" = some (.ref a_NOUGHT)
  k_NOUGHT : ∀ H, DT K H (.ref a_NOUGHT) (.tuple [(.int 0), (.int 1)])
  a_SPOKEN_OF : Addr
  g_SPOKEN_OF : mg "SPOKEN_OF" = some (.ref a_SPOKEN_OF)
  k_SPOKEN_OF_box : KDct K w a_SPOKEN_OF "box" (.int 0)
  k_SPOKEN_OF_ball : KDct K w a_SPOKEN_OF "ball" (.int 0)
  k_SPOKEN_OF_half : KDct K w a_SPOKEN_OF "half" (.int 0)
  k_SPOKEN_OF_join : KDct K w a_SPOKEN_OF "join" (.int 2)
  k_SPOKEN_OF_cut : KDct K w a_SPOKEN_OF "cut" (.int 2)
  k_SPOKEN_OF_meet : KDct K w a_SPOKEN_OF "meet" (.int 2)
  k_SPOKEN_OF_slide : KDct K w a_SPOKEN_OF "slide" (.int 1)
  k_SPOKEN_OF_turn : KDct K w a_SPOKEN_OF "turn" (.int 1)
  a_ONE : Addr
  g_ONE : mg "ONE" = some (.ref a_ONE)
  k_ONE : ∀ H, DT K H (.ref a_ONE) (.tuple [(.int 1), (.int 1)])
  a_UNTURNED : Addr
  g_UNTURNED : mg "UNTURNED" = some (.ref a_UNTURNED)
  k_UNTURNED : ∀ H, DT K H (.ref a_UNTURNED) (.tuple [(.tuple [(.tuple [(.int 1), (.int 1)]), (.tuple [(.int 0), (.int 1)]), (.tuple [(.int 0), (.int 1)])]), (.tuple [(.tuple [(.int 0), (.int 1)]), (.tuple [(.int 1), (.int 1)]), (.tuple [(.int 0), (.int 1)])]), (.tuple [(.tuple [(.int 0), (.int 1)]), (.tuple [(.int 0), (.int 1)]), (.tuple [(.int 1), (.int 1)])])])
  f_frac : Addr
  d_frac : FuncData
  F_frac : Fun K "frac" "frac" s_frac f_frac d_frac
  b_frac : Binds K d_frac ["above", "below"] []
  g_frac : mg "frac" = some (.ref f_frac)
  f_plus : Addr
  d_plus : FuncData
  F_plus : Fun K "plus" "plus" s_plus f_plus d_plus
  b_plus : Binds K d_plus ["one", "other"] []
  g_plus : mg "plus" = some (.ref f_plus)
  f_minus : Addr
  d_minus : FuncData
  F_minus : Fun K "minus" "minus" s_minus f_minus d_minus
  b_minus : Binds K d_minus ["one", "other"] []
  g_minus : mg "minus" = some (.ref f_minus)
  f_times : Addr
  d_times : FuncData
  F_times : Fun K "times" "times" s_times f_times d_times
  b_times : Binds K d_times ["one", "other"] []
  g_times : mg "times" = some (.ref f_times)
  f_dot : Addr
  d_dot : FuncData
  F_dot : Fun K "dot" "dot" s_dot f_dot d_dot
  b_dot : Binds K d_dot ["one", "other"] []
  g_dot : mg "dot" = some (.ref f_dot)
  f_together : Addr
  d_together : FuncData
  F_together : Fun K "together" "together" s_together f_together d_together
  b_together : Binds K d_together ["one", "other"] []
  g_together : mg "together" = some (.ref f_together)
  f_stretched : Addr
  d_stretched : FuncData
  F_stretched : Fun K "stretched" "stretched" s_stretched f_stretched d_stretched
  b_stretched : Binds K d_stretched ["way", "by"] []
  g_stretched : mg "stretched" = some (.ref f_stretched)
  f_turned : Addr
  d_turned : FuncData
  F_turned : Fun K "turned" "turned" s_turned f_turned d_turned
  b_turned : Binds K d_turned ["turn", "way"] []
  g_turned : mg "turned" = some (.ref f_turned)
  f_columns_of : Addr
  d_columns_of : FuncData
  F_columns_of : Fun K "columns_of" "columns_of" s_columns_of f_columns_of d_columns_of
  b_columns_of : Binds K d_columns_of ["turn"] []
  g_columns_of : mg "columns_of" = some (.ref f_columns_of)
  f_turn_about : Addr
  d_turn_about : FuncData
  F_turn_about : Fun K "turn_about" "turn_about" s_turn_about f_turn_about d_turn_about
  b_turn_about : Binds K d_turn_about ["axis", "cosine", "sine"] []
  g_turn_about : mg "turn_about" = some (.ref f_turn_about)
  f_one_behind_other : Addr
  d_one_behind_other : FuncData
  F_one_behind_other : Fun K "one_behind_other" "one_behind_other" s_one_behind_other f_one_behind_other d_one_behind_other
  b_one_behind_other : Binds K d_one_behind_other ["outer", "inner"] []
  g_one_behind_other : mg "one_behind_other" = some (.ref f_one_behind_other)
  f_lay : Addr
  d_lay : FuncData
  F_lay : Fun K "lay" "lay" s_lay f_lay d_lay
  b_lay : Binds K d_lay ["bodies", "number", "turn", "slide", "leaves"] []
  g_lay : mg "lay" = some (.ref f_lay)
  f_name_of : Addr
  d_name_of : FuncData
  F_name_of : Fun K "name_of" "name_of" s_name_of f_name_of d_name_of
  b_name_of : Binds K d_name_of ["scene", "thing"] []
  g_name_of : mg "name_of" = some (.ref f_name_of)
  f_laid_thing : Addr
  d_laid_thing : FuncData
  F_laid_thing : Fun K "laid_thing" "laid_thing" s_laid_thing f_laid_thing d_laid_thing
  b_laid_thing : Binds K d_laid_thing ["scene", "thing", "moment"] []
  g_laid_thing : mg "laid_thing" = some (.ref f_laid_thing)
  f_laid_out : Addr
  d_laid_out : FuncData
  F_laid_out : Fun K "laid_out" "laid_out" s_laid_out f_laid_out d_laid_out
  b_laid_out : Binds K d_laid_out ["scene", "name", "moment"] []
  g_laid_out : mg "laid_out" = some (.ref f_laid_out)
  f__law_cell : Addr
  d__law_cell : FuncData
  F__law_cell : Fun K "_law_cell" "_law_cell" s__law_cell f__law_cell d__law_cell
  b__law_cell : Binds K d__law_cell ["_law_script", "_law_k"] []
  g__law_cell : mg "_law_cell" = some (.ref f__law_cell)
  f__law_mixed : Addr
  d__law_mixed : FuncData
  F__law_mixed : Fun K "_law_mixed" "_law_mixed" s__law_mixed f__law_mixed d__law_mixed
  b__law_mixed : Binds K d__law_mixed ["_law_script", "_law_k", "_law_many_here"] []
  g__law_mixed : mg "_law_mixed" = some (.ref f__law_mixed)
  f__law_deck : Addr
  d__law_deck : FuncData
  F__law_deck : Fun K "_law_deck" "_law_deck" s__law_deck f__law_deck d__law_deck
  b__law_deck : Binds K d__law_deck ["_law_script"] []
  g__law_deck : mg "_law_deck" = some (.ref f__law_deck)
  f__law_take : Addr
  d__law_take : FuncData
  F__law_take : Fun K "_law_take" "_law_take" s__law_take f__law_take d__law_take
  b__law_take : Binds K d__law_take ["_law_deck_here", "_law_many_here"] []
  g__law_take : mg "_law_take" = some (.ref f__law_take)
  f__law_alike : Addr
  d__law_alike : FuncData
  F__law_alike : Fun K "_law_alike" "_law_alike" s__law_alike f__law_alike d__law_alike
  b__law_alike : Binds K d__law_alike ["_law_found", "_law_due"] []
  g__law_alike : mg "_law_alike" = some (.ref f__law_alike)
  f__law_gcd : Addr
  d__law_gcd : FuncData
  F__law_gcd : Fun K "_law_gcd" "_law_gcd" s__law_gcd f__law_gcd d__law_gcd
  b__law_gcd : Binds K d__law_gcd ["_law_one", "_law_other"] []
  g__law_gcd : mg "_law_gcd" = some (.ref f__law_gcd)
  f__law_frac : Addr
  d__law_frac : FuncData
  F__law_frac : Fun K "_law_frac" "_law_frac" s__law_frac f__law_frac d__law_frac
  b__law_frac : Binds K d__law_frac ["_law_above", "_law_below"] []
  g__law_frac : mg "_law_frac" = some (.ref f__law_frac)
  f__law_plus : Addr
  d__law_plus : FuncData
  F__law_plus : Fun K "_law_plus" "_law_plus" s__law_plus f__law_plus d__law_plus
  b__law_plus : Binds K d__law_plus ["_law_one", "_law_other"] []
  g__law_plus : mg "_law_plus" = some (.ref f__law_plus)
  f__law_times : Addr
  d__law_times : FuncData
  F__law_times : Fun K "_law_times" "_law_times" s__law_times f__law_times d__law_times
  b__law_times : Binds K d__law_times ["_law_one", "_law_other"] []
  g__law_times : mg "_law_times" = some (.ref f__law_times)
  f__law_added : Addr
  d__law_added : FuncData
  F__law_added : Fun K "_law_added" "_law_added" s__law_added f__law_added d__law_added
  b__law_added : Binds K d__law_added ["_law_one", "_law_other"] []
  g__law_added : mg "_law_added" = some (.ref f__law_added)
  f__law_many : Addr
  d__law_many : FuncData
  F__law_many : Fun K "_law_many" "_law_many" s__law_many f__law_many d__law_many
  b__law_many : Binds K d__law_many ["_law_point_here", "_law_number_here"] []
  g__law_many : mg "_law_many" = some (.ref f__law_many)
  f__law_number : Addr
  d__law_number : FuncData
  F__law_number : Fun K "_law_number" "_law_number" s__law_number f__law_number d__law_number
  b__law_number : Binds K d__law_number ["_law_deck_here"] []
  g__law_number : mg "_law_number" = some (.ref f__law_number)
  f__law_point : Addr
  d__law_point : FuncData
  F__law_point : Fun K "_law_point" "_law_point" s__law_point f__law_point d__law_point
  b__law_point : Binds K d__law_point ["_law_deck_here"] []
  g__law_point : mg "_law_point" = some (.ref f__law_point)
  f__law_size : Addr
  d__law_size : FuncData
  F__law_size : Fun K "_law_size" "_law_size" s__law_size f__law_size d__law_size
  b__law_size : Binds K d__law_size ["_law_deck_here"] []
  g__law_size : mg "_law_size" = some (.ref f__law_size)
  f__law_base : Addr
  d__law_base : FuncData
  F__law_base : Fun K "_law_base" "_law_base" s__law_base f__law_base d__law_base
  b__law_base : Binds K d__law_base ["_law_deck_here"] []
  g__law_base : mg "_law_base" = some (.ref f__law_base)
  f__law_right : Addr
  d__law_right : FuncData
  F__law_right : Fun K "_law_right" "_law_right" s__law_right f__law_right d__law_right
  b__law_right : Binds K d__law_right ["_law_scene", "_law_thing", "_law_moment"] []
  g__law_right : mg "_law_right" = some (.ref f__law_right)
  m_abs : mg "abs" = none
  m_bool : mg "bool" = none
  m_int : mg "int" = none
  m_isinstance : mg "isinstance" = none
  m_len : mg "len" = none
  m_range : mg "range" = none
  m_str : mg "str" = none
  m_tuple : mg "tuple" = none
  m_zip : mg "zip" = none

/-- the greatest common divisor with the sign of b -/
def sg (a b : Int) : Int := if b < 0 then -(Int.gcd a b : Int) else (Int.gcd a b : Int)
/-- the loop of frac between two turns -/
def GInv (a b x y : Int) : Prop := Int.gcd x y = Int.gcd a b ∧ ((0 < b ∧ 0 ≤ y ∧ y < x ∧ x ≤ b) ∨ (b < 0 ∧ y ≤ 0 ∧ x < y ∧ b ≤ x))
theorem gcd_step (x y : Int) : Int.gcd y (x.fmod y) = Int.gcd x y := by
  rw [Int.fmod_def, Int.mul_comm, Int.gcd_sub_mul_right_right, Int.gcd_comm]
theorem fmod_pos {x y : Int} (h : 0 < y) : 0 ≤ x.fmod y ∧ x.fmod y < y := ⟨Int.fmod_nonneg_of_pos x h, Int.fmod_lt_of_pos x h⟩
theorem fmod_neg {x y : Int} (h : y < 0) : x.fmod y ≤ 0 ∧ y < x.fmod y := by
  have h' : 0 < -y := by omega
  have e := Int.neg_fmod_neg (-x) (-y)
  rw [Int.neg_neg, Int.neg_neg] at e
  have h1 := Int.fmod_nonneg_of_pos (-x) h'
  have h2 := Int.fmod_lt_of_pos (-x) h'
  omega
theorem GInv.start {a b : Int} (hb : b ≠ 0) : GInv a b b (a.fmod b) := by
  refine ⟨gcd_step a b, ?_⟩
  by_cases hp : 0 < b
  · have := @fmod_pos a b hp
    exact .inl ⟨hp, by omega, by omega, Int.le_refl _⟩
  · have hn : b < 0 := by omega
    have := @fmod_neg a b hn
    exact .inr ⟨hn, by omega, by omega, Int.le_refl _⟩
theorem GInv.next {a b x y : Int} (h : GInv a b x y) (hy : y ≠ 0) : GInv a b y (x.fmod y) ∧ (x.fmod y).natAbs < y.natAbs := by
  obtain ⟨hg, hs⟩ := h
  rcases hs with ⟨h1, h2, h3, h4⟩ | ⟨h1, h2, h3, h4⟩
  · have f := @fmod_pos x y (by omega)
    exact ⟨⟨by rw [gcd_step, hg], .inl ⟨h1, by omega, by omega, by omega⟩⟩, by omega⟩
  · have f := @fmod_neg x y (by omega)
    exact ⟨⟨by rw [gcd_step, hg], .inr ⟨h1, by omega, by omega, by omega⟩⟩, by omega⟩
theorem GInv.fin {a b x : Int} (h : GInv a b x 0) : x = sg a b := by
  obtain ⟨hg, hs⟩ := h
  rw [Int.gcd_zero_right] at hg
  unfold sg
  rw [← hg]
  split <;> omega
theorem GInv.ne {a b x y : Int} (h : GInv a b x y) : x ≠ 0 ∧ x.natAbs ≤ b.natAbs := by
  obtain ⟨hg, hs⟩ := h
  omega
/-- the law's own: without signs -/
def HInv (a b x y : Int) : Prop := Int.gcd x y = Int.gcd a b ∧ 0 ≤ x ∧ 0 ≤ y
theorem HInv.next {a b x y : Int} (h : HInv a b x y) (hy : 0 < y) : HInv a b y (x.fmod y) ∧ (x.fmod y).natAbs < y.natAbs := by
  obtain ⟨hg, hx, _⟩ := h
  have f := @fmod_pos x y hy
  exact ⟨⟨by rw [gcd_step, hg], by omega, f.1⟩, by omega⟩
theorem HInv.fin {a b x y : Int} (h : HInv a b x y) (hy : ¬ 0 < y) : x = (Int.gcd a b : Int) := by
  obtain ⟨hg, hx, h3⟩ := h
  have e : y = 0 := by omega
  subst e
  rw [Int.gcd_zero_right] at hg
  omega
theorem gcd_abs (a b : Int) : Int.gcd (if a < 0 then -a else a) (if b < 0 then -b else b) = Int.gcd a b := by
  have h : ∀ z : Int, (if z < 0 then -z else z).natAbs = z.natAbs := fun z => by split <;> omega
  unfold Int.gcd
  rw [h, h]
theorem sg_ne {a b : Int} (hb : b ≠ 0) : sg a b ≠ 0 ∧ (sg a b).natAbs ≤ b.natAbs := by
  have h1 : 0 < Int.gcd a b := Int.gcd_pos_of_ne_zero_right a hb
  have h2 : Int.gcd a b ≤ b.natAbs := Nat.le_of_dvd (by omega) (Int.gcd_dvd_natAbs_right a b)
  unfold sg
  split <;> omega
theorem sg_num {a b : Int} (hb : b ≠ 0) : a.fdiv (sg a b) = (Rat.divInt a b).num := by
  rw [Rat.num_divInt, Int.gcd_comm]
  have d : ((Int.gcd a b : Nat) : Int) ∣ a := Int.gcd_dvd_left a b
  unfold sg
  by_cases h : b < 0
  · rw [if_pos h, Int.sign_eq_neg_one_of_neg h, Int.fdiv_eq_ediv_of_dvd (Int.neg_dvd.mpr d), Int.ediv_neg, Int.neg_mul, Int.one_mul, Int.neg_ediv_of_dvd d]
  · rw [if_neg h, Int.fdiv_eq_ediv_of_dvd d]
    rw [Int.sign_eq_one_of_pos (by omega), Int.one_mul]
theorem sg_den {a b : Int} (hb : b ≠ 0) : b.fdiv (sg a b) = ((Rat.divInt a b).den : Int) := by
  rw [Rat.den_divInt, if_neg hb, Int.gcd_comm b a]
  have d : ((Int.gcd a b : Nat) : Int) ∣ b := Int.gcd_dvd_right a b
  unfold sg
  by_cases h : b < 0
  · rw [if_pos h, Int.fdiv_eq_ediv_of_dvd (Int.neg_dvd.mpr d), Int.ediv_neg, ← Int.neg_ediv_of_dvd d, Int.natCast_ediv]
    congr 1
    omega
  · rw [if_neg h, Int.fdiv_eq_ediv_of_dvd d, Int.natCast_ediv]
    congr 1
    omega

/-! ### sizes -/
def Bt (n : Nat) (x : Int) : Prop := x.natAbs < 2 ^ n
theorem Bt.mono {m n : Nat} {x : Int} (h : Bt m x) (hn : m ≤ n) : Bt n x := Nat.lt_of_lt_of_le h (Nat.pow_le_pow_right (by decide) hn)
theorem Bt.le {n : Nat} {x y : Int} (hy : Bt n y) (h : x.natAbs ≤ y.natAbs) : Bt n x := Nat.lt_of_le_of_lt h hy
theorem Bt.mul {m n : Nat} {x y : Int} (hx : Bt m x) (hy : Bt n y) : Bt (m + n) (x * y) := by
  unfold Bt at *
  rw [Int.natAbs_mul, Nat.pow_add]
  exact Nat.mul_lt_mul'' hx hy
theorem Bt.add {n : Nat} {x y : Int} (hx : Bt n x) (hy : Bt n y) : Bt (n + 1) (x + y) := by
  unfold Bt at *
  rw [Nat.pow_succ]
  omega
theorem Bt.neg {n : Nat} {x : Int} (hx : Bt n x) : Bt n (-x) := by
  unfold Bt at *
  rw [Int.natAbs_neg]
  exact hx
theorem Bt.sub {n : Nat} {x y : Int} (hx : Bt n x) (hy : Bt n y) : Bt (n + 1) (x - y) := by
  unfold Bt at *
  rw [Nat.pow_succ]
  omega
/-- a fraction's two parts -/
def Rb (n : Nat) (q : Rat) : Prop := Bt n q.num ∧ Bt n (q.den : Int)
theorem Rb.mono {m n : Nat} {q : Rat} (h : Rb m q) (hn : m ≤ n) : Rb n q := ⟨h.1.mono hn, h.2.mono hn⟩
theorem den_ne (q : Rat) : ((q.den : Nat) : Int) ≠ 0 := by
  have := q.den_pos
  omega
theorem rb_div {n : Nat} {a b : Int} (hb : b ≠ 0) (h1 : Bt n a) (h2 : Bt n b) : Rb n (Rat.divInt a b) := by
  have hs := (sg_ne (a := a) hb).1
  have e1 : a.fdiv (sg a b) * sg a b = a := Int.fdiv_mul_cancel (by
    unfold sg
    split
    · exact Int.neg_dvd.mpr (Int.gcd_dvd_left a b)
    · exact Int.gcd_dvd_left a b)
  have e2 : b.fdiv (sg a b) * sg a b = b := Int.fdiv_mul_cancel (by
    unfold sg
    split
    · exact Int.neg_dvd.mpr (Int.gcd_dvd_right a b)
    · exact Int.gcd_dvd_right a b)
  have k : ∀ x y : Int, x * sg a b = y → x.natAbs ≤ y.natAbs := fun x y e => by
    rw [← e, Int.natAbs_mul]
    exact Nat.le_mul_of_pos_right _ (by omega)
  rw [sg_num hb] at e1
  rw [sg_den hb] at e2
  exact ⟨h1.le (k _ _ e1), h2.le (k _ _ e2)⟩
theorem rat_sum (q r : Rat) : Rat.divInt (q.num * r.den + r.num * q.den) (q.den * r.den) = q + r := by
  rw [← Rat.divInt_add_divInt _ _ (den_ne q) (den_ne r), Rat.num_divInt_den, Rat.num_divInt_den]
theorem rat_less (q r : Rat) : Rat.divInt (q.num * r.den - r.num * q.den) (q.den * r.den) = q - r := by
  rw [← Rat.divInt_sub_divInt _ _ (den_ne q) (den_ne r), Rat.num_divInt_den, Rat.num_divInt_den]
theorem rat_prod (q r : Rat) : Rat.divInt (q.num * r.num) (q.den * r.den) = q * r := by
  rw [← Rat.divInt_mul_divInt, Rat.num_divInt_den, Rat.num_divInt_den]
theorem rat_quot (q r : Rat) : Rat.divInt (q.num * r.den) (q.den * r.num) = q / r := by
  rw [Rat.div_def, Rat.inv_def, ← Rat.divInt_mul_divInt, Rat.num_divInt_den]
theorem Rb.add {m n : Nat} {q r : Rat} (hq : Rb m q) (hr : Rb n r) : Rb (m + n + 1) (q + r) := by
  rw [← rat_sum]
  exact rb_div (Int.mul_ne_zero (den_ne q) (den_ne r)) ((hq.1.mul hr.2).add ((hr.1.mul hq.2).mono (by omega))) ((hq.2.mul hr.2).mono (by omega))
theorem Rb.sub {m n : Nat} {q r : Rat} (hq : Rb m q) (hr : Rb n r) : Rb (m + n + 1) (q - r) := by
  rw [← rat_less]
  exact rb_div (Int.mul_ne_zero (den_ne q) (den_ne r)) ((hq.1.mul hr.2).sub ((hr.1.mul hq.2).mono (by omega))) ((hq.2.mul hr.2).mono (by omega))
theorem Rb.mul {m n : Nat} {q r : Rat} (hq : Rb m q) (hr : Rb n r) : Rb (m + n) (q * r) := by
  rw [← rat_prod]
  exact rb_div (Int.mul_ne_zero (den_ne q) (den_ne r)) (hq.1.mul hr.1) (hq.2.mul hr.2)
theorem num_ne {r : Rat} (h : r ≠ 0) : r.num ≠ 0 := fun e => h (Rat.num_eq_zero.mp e)
theorem Rb.div {m n : Nat} {q r : Rat} (hq : Rb m q) (hr : Rb n r) (h : r ≠ 0) : Rb (m + n) (q / r) := by
  rw [← rat_quot]
  exact rb_div (Int.mul_ne_zero (den_ne q) (num_ne h)) (hq.1.mul hr.2) (hq.2.mul hr.1)

/-! ### rules of numbers -/
section
variable {X : Cx}
theorem op_fdX : OpR X (binaryOp .FloorDiv) (rI (fun _ j => j ≠ 0 ∧ Bt 9000 j) fun i j => .int (i.fdiv j)) := opI fun _ _ _ _ _ _ _ hc q =>
  floordiv_int hc.1 q (.inl (PyProof.noPylong_of_log2 (PySem.Flt.log2_lt_of (by decide) hc.2)))
end
/-! the rules within a comprehension: the written part by name -/
section
variable {X : Cx} {K : PySem.W.Frag}
theorem call_isiC (h : X.K = K) : CallR X (.builtin "isinstance") (rIsi K) := h ▸ call_isi
theorem ix_listC (h : X.K = K) : IxR X (rIxL K) := h ▸ ix_list
theorem ix_tupC (h : X.K = K) : IxR X (rIxT K) := h ▸ ix_tup
theorem call_len_seqC (h : X.K = K) : CallR X (.builtin "len") (fun xs H Q => ∃ p ys, xs = [.ref p] ∧ (SqL K H p ys ∨ SqT K H p ys) ∧ Q (.int ys.length) H) := h ▸ call_len_seq
theorem pg_tupC {es : List Expr} {k : Nat} {t : TGs} {n : Nat} {pos : Pos} (hK : X.K = K) (hc : X.calm = true) (h : PGs X es t) (hn : (assignEach es X.env).length = n := by rfl) (hst : (assignEach es X.env).findIdx? (·.1) = none := by rfl) : PG X (.Tuple es k pos) (gTup K n t) := hK ▸ pg_tup hc h hn hst
theorem pi_listC {tg l : Expr} {tl : TE} (hK : X.K = K) (hl : PE X l tl) : PI X tg l (iList K tl) := hK ▸ pi_list hl
theorem pi_tupC {tg l : Expr} {tl : TE} (hK : X.K = K) (hl : PE X l tl) : PI X tg l (iTup K tl) := hK ▸ pi_tup hl
theorem op_eqDC (h : X.K = K) (hu : X.A.units + 64 < cLine) : OpR X (compareOp .Eq) (rEqD K) := h ▸ op_eqD hu
theorem op_neDC (h : X.K = K) (hu : X.A.units + 64 < cLine) : OpR X (compareOp .NotEq) (rNeD K) := h ▸ op_neD hu
end
theorem bt_lit {n : Nat} {x : Int} (h : x.natAbs < 2 ^ n) : Bt n x := h
theorem ite_yes {c A B : Prop} [Decidable c] (h : c) (a : A) : if c then A else B := by
  rw [if_pos h]
  exact a
theorem ite_no {c A B : Prop} [Decidable c] (h : ¬ c) (a : B) : if c then A else B := by
  rw [if_neg h]
  exact a
theorem sz_n {n : Nat} (h : n ≤ 1000) : n ≤ sizeLine := Nat.le_trans h (by decide)
/-! ### readings, one by one -/
theorem rd_v {i : Nat} {v : V} {σ : L2.St} {H : Hp} {Q : VK} (h : σ[i]? = some (some v)) (q : Q v H) : tVar i σ H Q := ⟨v, h, q⟩
theorem rd_c {v : V} {σ : L2.St} {H : Hp} {Q : VK} (q : Q v H) : tC v σ H Q := q
theorem rd_yes {σ : L2.St} {H : Hp} {Q : Bool → Hp → Prop} (q : Q true H) : tYes σ H Q := q
theorem rd_ixT {K : PySem.W.Frag} {i : Nat} {p : Addr} {xs : List V} {j : Int} {v : V} {σ : L2.St} {H : Hp} {Q : VK} (h : σ[i]? = some (some (.ref p))) (hp : H p = some (.tup xs)) (ha : atI xs j = some v) (q : Q v H) :
    tOp (rIxT K) (tVar i) (tC (.int j)) σ H Q := ⟨.ref p, h, p, xs, j, v, rfl, rfl, SqT.of hp, ha, q⟩
theorem rd_ixL {K : PySem.W.Frag} {i : Nat} {p : Addr} {xs : List V} {j : Int} {v : V} {σ : L2.St} {H : Hp} {Q : VK} (h : σ[i]? = some (some (.ref p))) (hp : H p = some (.lst xs)) (ha : atI xs j = some v) (q : Q v H) :
    tOp (rIxL K) (tVar i) (tC (.int j)) σ H Q := ⟨.ref p, h, p, xs, j, v, rfl, rfl, SqL.of hp, ha, q⟩
theorem rd_mul {m n : Nat} {i j : Int} {H : Hp} {Q : VK} (hm : Bt m i) (hn : Bt n j) (h : m + n ≤ 134217728) (q : Q (.int (i * j)) H) : rI CMulX (fun i j => .int (i * j)) (.int i) (.int j) H Q := ⟨i, j, rfl, rfl, mulx_ok hm hn h, q⟩
theorem rd_i0 {g : Int → Int → V} {i j : Int} {H : Hp} {Q : VK} (q : Q (g i j) H) : rI0 g (.int i) (.int j) H Q := ⟨i, j, rfl, rfl, q⟩
theorem rd_eqi {i j : Int} {H : Hp} {Q : VK} (q : Q (.bl (decide (i = j))) H) : rEq (.int i) (.int j) H Q := by
  refine ⟨rfl, ?_⟩
  have e : decide (V.int i = V.int j) = decide (i = j) := by
    by_cases h : i = j
    · rw [decide_eq_true h, decide_eq_true (congrArg V.int h)]
    · rw [decide_eq_false h, decide_eq_false fun z => h (V.int.inj z)]
  rw [e]
  exact q
theorem rd_asg {te : TE} {g : TG} {rest : TS} {D : Ends} {σ : L2.St} {H : Hp} (q : te σ H fun v H1 => g v σ H1 (rest D)) : tSeq (tAsg te g) rest D σ H := q
theorem rd_op {r : R2} {ta tb : TE} {σ : L2.St} {H : Hp} {Q : VK} (q : ta σ H fun x H1 => tb σ H1 fun y H2 => r x y H2 Q) : tOp r ta tb σ H Q := q
theorem rd_lst {t : TA} {σ : L2.St} {H : Hp} {Q : VK} (q : t σ H fun xs H1 => xs.length ≤ sizeLine ∧ ∀ p, H1 p = none → Q (.ref p) (upd H1 p (.lst xs))) : tLst t σ H Q := q
def forK (g : TG) (tb : TS) (D : Ends) (σ0 : L2.St) : It → Hp → Prop := fun J H1 => ∃ W : Nat → Nat → L2.St → Hp → Prop, (∃ m, W 0 m σ0 H1) ∧ ∀ i m σ H, W i m σ H →
  (J.stop i H ∧ D.nx σ H) ∨ (J.go i H ∧ ∃ N : L2.St → Hp → Prop, (∀ σ' H', N σ' H' → ∃ m', m' < m ∧ W (i + 1) m' σ' H') ∧ ∀ x H', J.yld i H x H' → g x σ H' fun σ2 H2 => tb { D with nx := N, ct := N, bk := D.nx } σ2 H2)
theorem rd_for {wi : TI} {g : TG} {tb : TS} {D : Ends} {σ : L2.St} {H : Hp} (q : wi σ H (forK g tb D σ)) : tFor wi g tb D σ H := q
theorem rd_forS {wi : TI} {g : TG} {tb rest : TS} {D : Ends} {σ : L2.St} {H : Hp} (q : wi σ H (forK g tb { D with nx := rest D } σ)) : tSeq (tFor wi g tb) rest D σ H := q
theorem rd_iL {K : PySem.W.Frag} {tl : TE} {σ : L2.St} {H : Hp} {R : It → Hp → Prop} (q : tl σ H fun x H1 => ∃ a, x = .ref a ∧ (∃ xs, SqL K H1 a xs) ∧ R (Itl K a) H1) : iList K tl σ H R := q
theorem rd_cons {te : TE} {ta : TA} {σ : L2.St} {H : Hp} {Q : List V → Hp → Prop} (q : te σ H fun x H1 => ta σ H1 fun xs H2 => Q (x :: xs) H2) : tCons te ta σ H Q := q
theorem rd_ret {te : TE} {D : Ends} {σ : L2.St} {H : Hp} (q : te σ H D.rt) : tRet te D σ H := q
theorem rd_tup {t : TA} {σ : L2.St} {H : Hp} {Q : VK} (q : t σ H fun xs H1 => xs.length ≤ sizeLine ∧ ∀ p, H1 p = none → Q (.ref p) (upd H1 p (.tup xs))) : tTup t σ H Q := q
/-! ### heaps -/
theorem same_upd {H : Hp} {p : Addr} {o : HO} (h : H p = none) : Same H (upd H p o) := fun b x e => by
  rw [upd_ne (ne_of_none e h)]
  exact e
theorem same_tup {K : PySem.W.Frag} {H H' : Hp} {a : Addr} {xs : List V} (e : Same H H') (h : SqT K H a xs) : SqT K H' a xs := by
  rcases h with (h | ⟨o, h⟩) | h
  · exact .inl (.inl (e _ _ h))
  · exact .inl (.inr ⟨o, e _ _ h⟩)
  · exact .inr h
/-- a fraction as it stands -/
def FrV (H : Hp) (v : V) (q : Rat) : Prop := ∃ p, v = .ref p ∧ H p = some (.tup [.int q.num, .int (q.den : Int)])
theorem FrV.same {H H' : Hp} {v : V} {q : Rat} (e : Same H H') (h : FrV H v q) : FrV H' v q := by
  obtain ⟨p, rfl, h⟩ := h
  exact ⟨p, rfl, e _ _ h⟩
theorem frv_new {H : Hp} {p : Addr} {a b : Int} {q : Rat} (e1 : a = q.num) (e2 : b = (q.den : Int)) : FrV (upd H p (.tup [.int a, .int b])) (.ref p) q := by
  subst e1 e2
  exact ⟨p, rfl, upd_same⟩
theorem FrV.dp {K : PySem.W.Frag} {H : Hp} {v : V} {q : Rat} (h : FrV H v q) : Dp K H v (.tuple [.int q.num, .int (q.den : Int)]) := by
  obtain ⟨p, rfl, h⟩ := h
  exact Dp.tup (SqT.of h) (DpAll.cons (Dp.int _) (DpAll.cons (Dp.int _) DpAll.nil))
theorem nd_ne {a b : V} (e : (!decide (a = b)) = true) : a ≠ b := fun z => by
  rw [decide_eq_true z] at e
  cases e
theorem nd_eq {a b : V} (e : ¬ (!decide (a = b)) = true) : a = b := Decidable.byContradiction fun z => e (by
  rw [decide_eq_false z]
  rfl)
theorem eqv2 (x y a b : Int) : PyData.eqv (.tuple [.int x, .int y]) (.tuple [.int a, .int b]) = (decide (x = a) && decide (y = b)) := by
  simp [PyData.eqv, PyData.eqvAll, Bool.beq_eq_decide_eq]
/-! ### the deck: all else stands -/
def Keep (d l : Addr) (H H' : Hp) : Prop := ∀ a o, H a = some o → a ≠ d → a ≠ l → H' a = some o
theorem Keep.refl {d l : Addr} {H : Hp} : Keep d l H H := fun _ _ h _ _ => h
theorem Keep.trans {d l : Addr} {H H1 H2 : Hp} (a : Keep d l H H1) (b : Keep d l H1 H2) : Keep d l H H2 := fun x o h h1 h2 => b x o (a x o h h1 h2) h1 h2
theorem same_keep {d l : Addr} {H H' : Hp} (e : Same H H') : Keep d l H H' := fun a o h _ _ => e a o h
theorem keep_d {d l : Addr} {H : Hp} {o : HO} : Keep d l H (upd H d o) := fun a u h h1 _ => by
  rw [upd_ne h1]
  exact h
theorem keep_l {d l : Addr} {H : Hp} {o : HO} : Keep d l H (upd H l o) := fun a u h _ h2 => by
  rw [upd_ne h2]
  exact h
theorem keep_new {d l p : Addr} {H : Hp} {o : HO} (h : H p = none) : Keep d l H (upd H p o) := same_keep (same_upd h)
theorem Keep.sq {K : PySem.W.Frag} {d l s : Addr} {H H' : Hp} {xs : List V} (k : Keep d l H H') (h1 : s ≠ d) (h2 : s ≠ l) (h : SqL K H s xs) : SqL K H' s xs := by
  rcases h with (h | ⟨o, h⟩) | h
  · exact .inl (.inl (k _ _ h h1 h2))
  · exact .inl (.inr ⟨o, k _ _ h h1 h2⟩)
  · exact .inr h
/-- the script: of the written part, or tracked beside the deck -/
def Sct (K : PySem.W.Frag) (H : Hp) (d l s : Addr) (xs : List V) : Prop := (∀ H', SqL K H' s xs) ∨ (SqL K H s xs ∧ s ≠ d ∧ s ≠ l)
theorem Sct.sq {K : PySem.W.Frag} {H : Hp} {d l s : Addr} {xs : List V} (h : Sct K H d l s xs) : SqL K H s xs := by
  rcases h with h | h
  · exact h H
  · exact h.1
theorem Sct.keep {K : PySem.W.Frag} {H H' : Hp} {d l s : Addr} {xs : List V} (h : Sct K H d l s xs) (k : Keep d l H H') : Sct K H' d l s xs := by
  rcases h with h | ⟨h, h1, h2⟩
  · exact .inl h
  · exact .inr ⟨k.sq h1 h2 h, h1, h2⟩
theorem sct_of {K : PySem.W.Frag} {H H' : Hp} {d l s : Addr} {xs : List V} (h : SqL K H s xs) (e : Same H H') (nd : H d = none) (nl : H l = none) : Sct K H' d l s xs := by
  rcases h with (h | ⟨o, h⟩) | h
  · exact .inr ⟨.inl (.inl (e _ _ h)), ne_of_none h nd, ne_of_none h nl⟩
  · exact .inr ⟨.inl (.inr ⟨o, e _ _ h⟩), ne_of_none h nd, ne_of_none h nl⟩
  · exact .inl fun _ => .inr h
/-- the deck at d: the script at s, the numbers at l -/
def Dk (K : PySem.W.Frag) (H : Hp) (d l s : Addr) (ns : List Int) (c : Nat) : Prop :=
  ∃ (xs : List Int) (i k : Nat), H d = some (.lst [.ref s, .ref l, .int (i : Int), .int (k : Int)]) ∧ H l = some (.lst (xs.map V.int)) ∧ k ≤ c ∧ Sct K H d l s (ns.map V.int)
theorem Dk.mono {K : PySem.W.Frag} {H : Hp} {d l s : Addr} {ns : List Int} {c c' : Nat} (h : Dk K H d l s ns c) (hc : c ≤ c') : Dk K H d l s ns c' := by
  obtain ⟨xs, i, k, h1, h2, h3, h4⟩ := h
  exact ⟨xs, i, k, h1, h2, Nat.le_trans h3 hc, h4⟩
theorem Dk.same {K : PySem.W.Frag} {H H' : Hp} {d l s : Addr} {ns : List Int} {c : Nat} (h : Dk K H d l s ns c) (e : Same H H') : Dk K H' d l s ns c := by
  obtain ⟨xs, i, k, h1, h2, h3, h4⟩ := h
  exact ⟨xs, i, k, e _ _ h1, e _ _ h2, h3, h4.keep (same_keep e)⟩
theorem Dk.new {K : PySem.W.Frag} {H : Hp} {d l s p : Addr} {o : HO} {ns : List Int} {c : Nat} (h : Dk K H d l s ns c) (hp : H p = none) : Dk K (upd H p o) d l s ns c := h.same (same_upd hp)
/-- what is no list is not the deck's -/
theorem Keep.at {K : PySem.W.Frag} {H H' : Hp} {d l s a : Addr} {ns : List Int} {c : Nat} {o : HO} (k : Keep d l H H') (h : Dk K H d l s ns c) (e : H a = some o) (no : ∀ xs, o ≠ .lst xs) : H' a = some o := by
  obtain ⟨xs, i, n, h1, h2, _⟩ := h
  exact k a o e (ne_of e h1 (no _)) (ne_of e h2 (no _))
theorem Keep.tup {K : PySem.W.Frag} {H H' : Hp} {d l s a : Addr} {ns : List Int} {c : Nat} {xs : List V} (k : Keep d l H H') (h : Dk K H d l s ns c) (e : H a = some (.tup xs)) : H' a = some (.tup xs) :=
  k.at h e fun _ z => by cases z
theorem Keep.fr {K : PySem.W.Frag} {H H' : Hp} {d l s : Addr} {ns : List Int} {c : Nat} {v : V} {q : Rat} (k : Keep d l H H') (h : Dk K H d l s ns c) (f : FrV H v q) : FrV H' v q := by
  obtain ⟨p, rfl, e⟩ := f
  exact ⟨p, rfl, k.tup h e⟩
theorem Dk.ne {K : PySem.W.Frag} {H : Hp} {d l s : Addr} {ns : List Int} {c : Nat} (h : Dk K H d l s ns c) : d ≠ l := by
  obtain ⟨xs, i, n, h1, h2, _⟩ := h
  refine ne_of h1 h2 fun z => ?_
  cases xs with
  | nil => cases z
  | cons x r => cases z

/-! ### rows of fractions -/
def AF (H : Hp) : List V → List Rat → Prop
  | [], [] => True
  | v :: vs, q :: qs => FrV H v q ∧ AF H vs qs
  | _, _ => False
theorem AF.imp {H H' : Hp} (k : ∀ v q, FrV H v q → FrV H' v q) : ∀ {vs : List V} {qs : List Rat}, AF H vs qs → AF H' vs qs
  | [], [], _ => trivial
  | v :: vs, q :: qs, h => ⟨k v q h.1, AF.imp k h.2⟩
  | [], _ :: _, h => h.elim
  | _ :: _, [], h => h.elim
theorem AF.len {H : Hp} : ∀ {vs : List V} {qs : List Rat}, AF H vs qs → vs.length = qs.length
  | [], [], _ => rfl
  | v :: vs, q :: qs, h => congrArg (· + 1) (AF.len h.2)
  | [], _ :: _, h => h.elim
  | _ :: _, [], h => h.elim
theorem AF.get {H : Hp} : ∀ {vs : List V} {qs : List Rat} {i : Nat} {v : V}, AF H vs qs → vs[i]? = some v → ∃ q, qs[i]? = some q ∧ FrV H v q
  | [], [], _, _, _, e => by simp at e
  | w :: vs, q :: qs, 0, v, h, e => ⟨q, rfl, by
      have e : w = v := Option.some.inj e
      exact e ▸ h.1⟩
  | w :: vs, q :: qs, i + 1, v, h, e => AF.get (i := i) h.2 e
  | [], _ :: _, _, _, h, _ => h.elim
  | _ :: _, [], _, _, h, _ => h.elim
theorem AF.snoc {H : Hp} {v : V} {q : Rat} (hv : FrV H v q) : ∀ {vs : List V} {qs : List Rat}, AF H vs qs → AF H (vs ++ [v]) (qs ++ [q])
  | [], [], _ => ⟨hv, trivial⟩
  | w :: vs, r :: qs, h => ⟨h.1, AF.snoc hv h.2⟩
  | [], _ :: _, h => h.elim
  | _ :: _, [], h => h.elim
theorem AF.same {H H' : Hp} (e : Same H H') {vs : List V} {qs : List Rat} (h : AF H vs qs) : AF H' vs qs := AF.imp (fun _ _ f => f.same e) h
theorem frv_lst {H : Hp} {D : Addr} {acc acc' : List V} {v : V} {q : Rat} (hD : H D = some (.lst acc)) (h : FrV H v q) : FrV (upd H D (.lst acc')) v q := by
  obtain ⟨p, rfl, h⟩ := h
  refine ⟨p, rfl, ?_⟩
  rw [upd_ne (ne_of h hD fun z => by cases z)]
  exact h
theorem AF.lst {H : Hp} {D : Addr} {acc acc' : List V} {vs : List V} {qs : List Rat} (hD : H D = some (.lst acc)) (h : AF H vs qs) : AF (upd H D (.lst acc')) vs qs := AF.imp (fun _ _ f => frv_lst hD f) h
/-- a tuple of fractions: a point -/
def PtV (H : Hp) (v : V) (qs : List Rat) : Prop := ∃ p xs, v = .ref p ∧ H p = some (.tup xs) ∧ AF H xs qs
theorem PtV.same {H H' : Hp} {v : V} {qs : List Rat} (e : Same H H') (h : PtV H v qs) : PtV H' v qs := by
  obtain ⟨p, xs, rfl, h, a⟩ := h
  exact ⟨p, xs, rfl, e _ _ h, a.same e⟩
theorem Keep.pt {K : PySem.W.Frag} {H H' : Hp} {d l s : Addr} {ns : List Int} {c : Nat} {v : V} {qs : List Rat} (k : Keep d l H H') (h : Dk K H d l s ns c) (f : PtV H v qs) : PtV H' v qs := by
  obtain ⟨p, xs, rfl, e, a⟩ := f
  exact ⟨p, xs, rfl, k.tup h e, AF.imp (fun _ _ f => k.fr h f) a⟩
def Rs (n : Nat) (qs : List Rat) : Prop := ∀ q ∈ qs, Rb n q
theorem rs_get {n : Nat} {qs : List Rat} {i : Nat} {q : Rat} (h : Rs n qs) (e : qs[i]? = some q) : Rb n q := h q (List.mem_of_getElem? e)
def rsum : List Rat → Rat
  | [] => 0
  | q :: r => q + rsum r
theorem rsum_snoc (q : Rat) : ∀ l : List Rat, rsum (l ++ [q]) = rsum l + q
  | [] => by
    show q + 0 = 0 + q
    grind
  | r :: l => by
    show r + rsum (l ++ [q]) = r + rsum l + q
    rw [rsum_snoc q l]
    grind
def prods (qs rs : List Rat) : List Rat := List.zipWith (fun q r => q * r) qs rs
theorem take_succ {α : Type} {l : List α} {i : Nat} {x : α} (h : l[i]? = some x) : l.take (i + 1) = l.take i ++ [x] := by
  rw [List.take_add_one, h]
  rfl
theorem prods_at {qs rs : List Rat} {i : Nat} {q r : Rat} (h1 : qs[i]? = some q) (h2 : rs[i]? = some r) : (prods qs rs)[i]? = some (q * r) := by
  unfold prods
  rw [List.getElem?_zipWith, h1, h2]
theorem dot_step {qs rs : List Rat} {i : Nat} {q r : Rat} (h1 : qs[i]? = some q) (h2 : rs[i]? = some r) : rsum ((prods qs rs).take (i + 1)) = rsum ((prods qs rs).take i) + q * r := by
  rw [take_succ (prods_at h1 h2), rsum_snoc]
/-- one turn of dot over whole numbers -/
theorem dot_turn {a b : Int} {q r S : Rat} (hb : b ≠ 0) (e : Rat.divInt a b = S) :
    Rat.divInt (a * ((q.den : Int) * (r.den : Int)) + q.num * r.num * b) (b * ((q.den : Int) * (r.den : Int))) = S + q * r := by
  rw [← e, ← rat_prod q r, Rat.divInt_add_divInt _ _ hb (Int.mul_ne_zero (den_ne q) (den_ne r))]
theorem walk_zipT {K : PySem.W.Frag} {a b : Addr} {xs ys : List V} {n : Nat} (hn : n = min xs.length ys.length) : Walk (RZ.ItzT K a b) n (fun H => SqT K H a xs ∧ SqT K H b ys) (YPair (fun i => xs[i]?) (fun i => ys[i]?)) := by
  subst hn
  refine ⟨fun i _ hi q => ?_, fun _ q => ⟨xs, ys, q.1, q.2, by omega⟩, fun i H v H' _ q y => ?_⟩
  · have h1 : i < xs.length := by omega
    have h2 : i < ys.length := by omega
    exact ⟨xs, ys, xs[i], ys[i], q.1, q.2, by simp [h1], by simp [h2]⟩
  · obtain ⟨T, x, z, h1, h2, h3, h4, h5⟩ := y
    exact ⟨T, x, z, h1, h2, h3, h4 xs q.1, h5 ys q.2⟩

section
variable {P : Program} {w : World} {K : PySem.W.Frag} {mg : Str → Option Value} {base : Heap}
def sp_frac : Sp := fun vs H Q _ => ∃ a b : Int, vs = [.int a, .int b] ∧ b ≠ 0 ∧ Bt 9000 b ∧ ∀ H' v, Same H H' → FrV H' v (Rat.divInt a b) → Q v H'
theorem ok_frac (T : Tx K mg w) : FnOk P w K mg base CX0 1 T.f_frac T.d_frac ["above", "below"] sp_frac := by
  refine T.F_frac.ok sc_frac (fun vs H Q E h => ?_) (fun cdv A outer s H vs Q E hr h => ?_)
  · obtain ⟨a, b, rfl, _⟩ := h
    rfl
  · obtain ⟨a, b, rfl, hb, hB, q⟩ := h
    refine ⟨_, (pss_cons (ps_par (i := 2) (j := 3) (by rfl) sc_frac.nd rfl rfl (by decide) rfl rfl (pa_cons (pv 1) (pa_cons (pe_op op_modN (pv 0) (pv 1)) pa_nil)) (by rfl))
      (pss_cons (ps_while PassesOwn.never (pt_truth (pv 3) (by intro _; rfl)) (pss_one (ps_par (i := 2) (j := 3) (by rfl) sc_frac.nd rfl rfl (by decide) rfl rfl (pa_cons (pv 3) (pa_cons (pe_op op_modN (pv 2) (pv 3)) pa_nil)) (by rfl))))
      (pss_one (ps_ret (pe_tup (pa_cons (pe_op op_fdX (pv 0) (pv 2)) (pa_cons (pe_op op_fdX (pv 1) (pv 2)) pa_nil))))))), ?_⟩
    refine ⟨.int b, rfl, .int a, rfl, .int b, rfl, a, b, rfl, rfl, hb, _, _, rfl, ?_⟩
    refine ⟨fun m σ H' => H' = H ∧ ∃ x y : Int, σ = [some (.int a), some (.int b), some (.int x), some (.int y)] ∧ m = y.natAbs ∧ GInv a b x y, ⟨_, rfl, b, a.fmod b, rfl, rfl, GInv.start hb⟩, fun m σ H2 hW => ?_⟩
    obtain ⟨rfl, x, y, rfl, rfl, inv⟩ := hW
    refine ⟨.int y, rfl, y != 0, rfl, ?_⟩
    by_cases hy : y = 0
    · subst hy
      refine iteF ?_
      have ex := inv.fin
      obtain ⟨n1, n2⟩ := inv.ne
      have bx : Bt 9000 x := hB.le n2
      refine ⟨.int a, rfl, .int x, rfl, a, x, rfl, rfl, ⟨n1, bx⟩, .int b, rfl, .int x, rfl, b, x, rfl, rfl, ⟨n1, bx⟩, sz_n (by decide : 2 ≤ 1000), fun p hp => q _ _ (same_upd hp) ?_⟩
      subst ex
      exact frv_new (sg_num hb) (sg_den hb)
    · have hyb : (y != 0) = true := by simpa using hy
      refine ite_yes hyb ?_
      have nx := inv.next hy
      refine ⟨fun σ' H' => ∃ m', m' < y.natAbs ∧ H' = H2 ∧ ∃ x y : Int, σ' = [some (.int a), some (.int b), some (.int x), some (.int y)] ∧ m' = y.natAbs ∧ GInv a b x y, fun _ _ h => h, ?_⟩
      exact ⟨.int y, rfl, .int x, rfl, .int y, rfl, x, y, rfl, rfl, hy, _, _, rfl, _, nx.2, rfl, y, x.fmod y, rfl, rfl, nx.1⟩
theorem b2 {m n : Nat} (hm : m ≤ 4000) (hn : n ≤ 4000) : m + n ≤ 134217728 := by omega
def sp_two (f : Rat → Rat → Rat) (ok : Rat → Prop) : Sp := fun vs H Q _ => ∃ v1 v2 q r, vs = [v1, v2] ∧ FrV H v1 q ∧ FrV H v2 r ∧ Rb 4000 q ∧ Rb 4000 r ∧ ok r ∧ ∀ H' v, Same H H' → FrV H' v (f q r) → Q v H'
/-- the same, of fractions of any sizes that a division bears -/
def sp_twoG (f : Rat → Rat → Rat) (ok : Rat → Prop) : Sp := fun vs H Q _ => ∃ v1 v2 q r m n, vs = [v1, v2] ∧ FrV H v1 q ∧ FrV H v2 r ∧ Rb m q ∧ Rb n r ∧ m + n ≤ 9000 ∧ ok r ∧ ∀ H' v, Same H H' → FrV H' v (f q r) → Q v H'
theorem two_lenG {f : Rat → Rat → Rat} {ok : Rat → Prop} {vs : List V} {H : Hp} {Q : VK} {E : XK} (h : sp_twoG f ok vs H Q E) : vs.length = 2 := by
  obtain ⟨_, _, _, _, _, _, rfl, _⟩ := h
  rfl
theorem two_G {f : Rat → Rat → Rat} {ok : Rat → Prop} (vs : List V) (H : Hp) (Q : VK) (E : XK) (h : sp_two f ok vs H Q E) : sp_twoG f ok vs H Q E := by
  obtain ⟨v1, v2, q, r, e, f1, f2, b1, b2, k⟩ := h
  exact ⟨v1, v2, q, r, 4000, 4000, e, f1, f2, b1, b2, by decide, k⟩
theorem two_len {f : Rat → Rat → Rat} {ok : Rat → Prop} {vs : List V} {H : Hp} {Q : VK} {E : XK} (h : sp_two f ok vs H Q E) : vs.length = 2 := by
  obtain ⟨_, _, _, _, rfl, _⟩ := h
  rfl
end

/-! ### data, further -/
section
variable {K : PySem.W.Frag} {H H' : Hp}
theorem TupAt.sq {a : Addr} {xs : List V} (h : TupAt K H a xs) : SqT K H a xs := h.elim SqT.of fun h => h H
/-- tuples stay -/
def TK (H H' : Hp) : Prop := ∀ a xs, H a = some (.tup xs) → H' a = some (.tup xs)
theorem TK.refl : TK H H := fun _ _ h => h
theorem TK.trans {H1 H2 : Hp} (a : TK H H1) (b : TK H1 H2) : TK H H2 := fun x o h => b x o (a x o h)
theorem Same.tk (e : Same H H') : TK H H' := fun a xs h => e a _ h
theorem tk_new {p : Addr} {o : HO} (h : H p = none) : TK H (upd H p o) := Same.tk (same_upd h)
theorem tk_lst {p : Addr} {o : HO} {xs : List V} (h : H p = some (.lst xs)) : TK H (upd H p o) := fun a ys e => by
  rw [upd_ne (ne_of e h fun z => by cases z)]
  exact e
theorem Keep.tk {d l s : Addr} {ns : List Int} {c : Nat} (k : Keep d l H H') (h : Dk K H d l s ns c) : TK H H' := fun _ _ e => k.tup h e
theorem TupAt.tk {a : Addr} {xs : List V} (e : TK H H') (h : TupAt K H a xs) : TupAt K H' a xs := h.elim (fun h => .inl (e _ _ h)) .inr
mutual
theorem DT.tk (e : TK H H') : ∀ {v : V} {d : PyData}, DT K H v d → DT K H' v d
  | _, _, .non => .non
  | _, _, .bl b => .bl b
  | _, _, .int i => .int i
  | _, _, .str x => .str x
  | _, _, .tup h hs => .tup (h.tk e) (DTs.tk e hs)
theorem DTs.tk (e : TK H H') : ∀ {vs : List V} {ds : List PyData}, DTs K H vs ds → DTs K H' vs ds
  | _, _, .nil => .nil
  | _, _, .cons h hs => .cons (DT.tk e h) (DTs.tk e hs)
end
theorem DT.same {v : V} {d : PyData} (e : Same H H') (h : DT K H v d) : DT K H' v d := h.tk (Same.tk e)
theorem DT.inv {v : V} {ds : List PyData} (h : DT K H v (.tuple ds)) : ∃ a xs, v = .ref a ∧ TupAt K H a xs ∧ DTs K H xs ds := by
  cases h with
  | tup h hs => exact ⟨_, _, rfl, h, hs⟩
theorem DT.int_inv {v : V} {i : Int} (h : DT K H v (.int i)) : v = .int i := by cases h; rfl
theorem DT.str_inv {v : V} {x : Str} (h : DT K H v (.str x)) : v = .str x := by cases h; rfl
theorem DTs.len {ds : List PyData} : ∀ {vs : List V}, DTs K H vs ds → vs.length = ds.length := by
  induction ds with
  | nil => intro vs h; cases h; rfl
  | cons d ds ih =>
    intro vs h
    cases h with
    | cons h hs => rw [List.length_cons, List.length_cons, ih hs]
theorem DTs.get {ds : List PyData} {j : Nat} {d : PyData} : ∀ {vs : List V}, DTs K H vs ds → ds[j]? = some d → ∃ v, vs[j]? = some v ∧ DT K H v d := by
  induction ds generalizing j with
  | nil => intro vs h e; cases e
  | cons x ds ih =>
    intro vs h e
    cases h with
    | cons h hs =>
      cases j with
      | zero => cases e; exact ⟨_, rfl, h⟩
      | succ j =>
        obtain ⟨u, hu, hd⟩ := ih hs e
        exact ⟨u, hu, hd⟩
theorem DTs.get' {ds : List PyData} {j : Nat} {v : V} : ∀ {vs : List V}, DTs K H vs ds → vs[j]? = some v → ∃ d, ds[j]? = some d ∧ DT K H v d := by
  induction ds generalizing j with
  | nil => intro vs h e; cases h; cases e
  | cons x ds ih =>
    intro vs h e
    cases h with
    | cons h hs =>
      cases j with
      | zero => cases e; exact ⟨_, rfl, h⟩
      | succ j =>
        obtain ⟨u, hu, hd⟩ := ih hs e
        exact ⟨u, hu, hd⟩
theorem DTs.append {us : List V} {ds es : List PyData} : ∀ {vs : List V}, DTs K H vs ds → DTs K H us es → DTs K H (vs ++ us) (ds ++ es) := by
  induction ds with
  | nil => intro vs h k; cases h; exact k
  | cons d ds ih =>
    intro vs h k
    cases h with
    | cons h hs =>
      show DTs K H (_ :: (_ ++ us)) (_ :: (_ ++ es))
      exact .cons h (ih hs k)
theorem dt_new {p : Addr} {xs : List V} {ds : List PyData} (hp : H p = none) (hs : DTs K H xs ds) : DT K (upd H p (.tup xs)) (.ref p) (.tuple ds) :=
  .tup (.inl upd_same) (hs.tk (tk_new hp))
mutual
theorem DT.dp : ∀ {v : V} {d : PyData}, DT K H v d → Dp K H v d
  | _, _, .non => .non
  | _, _, .bl b => .bl b
  | _, _, .int i => .int i
  | _, _, .str x => .str x
  | _, _, .tup h hs => .tup h.sq (DTs.dp hs)
theorem DTs.dp : ∀ {vs : List V} {ds : List PyData}, DTs K H vs ds → DpAll K H vs ds
  | _, _, .nil => .nil
  | _, _, .cons h hs => .cons (DT.dp h) (DTs.dp hs)
end
/-! readings of data -/
theorem rx_dt {x : V} {ds : List PyData} {j : Nat} {d : PyData} {Q : VK} (h : DT K H x (.tuple ds)) (e : ds[j]? = some d) (q : ∀ y, DT K H y d → Q y H) : rIxT K x (.int (j : Int)) H Q := by
  obtain ⟨a, xs, rfl, ha, hs⟩ := h.inv
  obtain ⟨v, hv, hd⟩ := hs.get e
  exact ⟨a, xs, (j : Int), v, rfl, rfl, ha.sq, atI_nat hv, q v hd⟩
theorem rd_dt {i : Nat} {x : V} {σ : L2.St} {ds : List PyData} {j : Nat} {d : PyData} {Q : VK} (hx : σ[i]? = some (some x)) (h : DT K H x (.tuple ds)) (e : ds[j]? = some d) (q : ∀ y, DT K H y d → Q y H) : tOp (rIxT K) (tVar i) (tC (.int (j : Int))) σ H Q := ⟨x, hx, rx_dt h e q⟩
/-! fractions, points, turns -/
def eF (q : Rat) : PyData := .tuple [.int q.num, .int (q.den : Int)]
theorem fr_inv {v : V} {q : Rat} (h : DT K H v (eF q)) : ∃ p, v = .ref p ∧ SqT K H p [.int q.num, .int (q.den : Int)] := by
  obtain ⟨a, xs, rfl, ha, hs⟩ := DT.inv h
  cases hs with
  | cons h1 hs => cases hs with
    | cons h2 hs => cases hs; rw [h1.int_inv, h2.int_inv] at ha; exact ⟨a, rfl, ha.sq⟩
theorem fr_of {v : V} {q : Rat} (h : FrV H v q) : DT K H v (eF q) := by
  obtain ⟨p, rfl, h⟩ := h
  exact .tup (.inl h) (.cons (.int _) (.cons (.int _) .nil))
structure P3 where
  x : Rat
  y : Rat
  z : Rat
def eP (p : P3) : PyData := .tuple [eF p.x, eF p.y, eF p.z]
structure T3 where
  a : P3
  b : P3
  c : P3
def eT (t : T3) : PyData := .tuple [eP t.a, eP t.b, eP t.c]
def P3.add (p q : P3) : P3 := ⟨p.x + q.x, p.y + q.y, p.z + q.z⟩
def P3.sub (p q : P3) : P3 := ⟨p.x - q.x, p.y - q.y, p.z - q.z⟩
def P3.scale (p : P3) (k : Rat) : P3 := ⟨p.x * k, p.y * k, p.z * k⟩
def P3.dot (p q : P3) : Rat := p.x * q.x + p.y * q.y + p.z * q.z
def T3.app (t : T3) (p : P3) : P3 := ⟨t.a.dot p, t.b.dot p, t.c.dot p⟩
def T3.tr (t : T3) : T3 := ⟨⟨t.a.x, t.b.x, t.c.x⟩, ⟨t.a.y, t.b.y, t.c.y⟩, ⟨t.a.z, t.b.z, t.c.z⟩⟩
def T3.mul (s t : T3) : T3 := ⟨t.tr.app s.a, t.tr.app s.b, t.tr.app s.c⟩
def P3.B (n : Nat) (p : P3) : Prop := Rb n p.x ∧ Rb n p.y ∧ Rb n p.z
def T3.B (n : Nat) (t : T3) : Prop := t.a.B n ∧ t.b.B n ∧ t.c.B n
theorem dt3 {p : Addr} {v1 v2 v3 : V} {d1 d2 d3 : PyData} (hp : H p = none) (h1 : DT K H v1 d1) (h2 : DT K H v2 d2) (h3 : DT K H v3 d3) : DT K (upd H p (.tup [v1, v2, v3])) (.ref p) (.tuple [d1, d2, d3]) := dt_new hp (.cons h1 (.cons h2 (.cons h3 .nil)))
theorem dt2 {p : Addr} {v1 v2 : V} {d1 d2 : PyData} (hp : H p = none) (h1 : DT K H v1 d1) (h2 : DT K H v2 d2) : DT K (upd H p (.tup [v1, v2])) (.ref p) (.tuple [d1, d2]) := dt_new hp (.cons h1 (.cons h2 .nil))
end

/-! ### the program's fractions over data -/
section
variable {P : Program} {w : World} {K : PySem.W.Frag} {mg : Str → Option Value} {base : Heap}
def spD_two (K : PySem.W.Frag) (f : Rat → Rat → Rat) (ok : Rat → Prop) : Sp := fun vs H Q _ => ∃ v1 v2 q r m n, vs = [v1, v2] ∧ DT K H v1 (eF q) ∧ DT K H v2 (eF r) ∧ Rb m q ∧ Rb n r ∧ m + n ≤ 9000 ∧ ok r ∧ ∀ H' v, Same H H' → DT K H' v (eF (f q r)) → Q v H'
theorem two_lenD {f : Rat → Rat → Rat} {ok : Rat → Prop} {vs : List V} {H : Hp} {Q : VK} {E : XK} (h : spD_two K f ok vs H Q E) : vs.length = 2 := by
  obtain ⟨_, _, _, _, _, _, rfl, _⟩ := h
  rfl
theorem rd_ixS {i : Nat} {p : Addr} {xs : List V} {j : Int} {v : V} {σ : L2.St} {H : Hp} {Q : VK} (h : σ[i]? = some (some (.ref p))) (hp : SqT K H p xs) (ha : atI xs j = some v) (q : Q v H) :
    tOp (rIxT K) (tVar i) (tC (.int j)) σ H Q := ⟨.ref p, h, p, xs, j, v, rfl, rfl, hp, ha, q⟩
theorem okD_plus (T : Tx K mg w) : FnOk P w K mg base CX0 2 T.f_plus T.d_plus ["one", "other"] (spD_two K (fun q r => q + r) (fun _ => True)) := by
  have G_frac := ok_frac (P := P) (w := w) (base := base) T
  refine T.F_plus.ok sc_plus (fun vs H Q E h => two_lenD h) (fun cdv A outer s H vs Q E hr h => ?_)
  obtain ⟨_, _, q, r, m, n, rfl, f1, f2, ⟨bq, bq'⟩, ⟨br, br'⟩, hmn, ok, k⟩ := h
  obtain ⟨p1, rfl, h1⟩ := fr_inv f1
  obtain ⟨p2, rfl, h2⟩ := fr_inv f2
  refine ⟨_, (pss_one (ps_ret (pe_call G_frac (hr.mono (by first | decide | omega)) (by rfl) T.g_frac T.F_frac.kp T.b_frac .nil pass0 (pa_cons (pe_op op_add (pe_op op_mulX (pe_ix ix_tup (pv 0) pe_int (fun _ _ => rfl)) (pe_ix ix_tup (pv 1) pe_int (fun _ _ => rfl))) (pe_op op_mulX (pe_ix ix_tup (pv 1) pe_int (fun _ _ => rfl)) (pe_ix ix_tup (pv 0) pe_int (fun _ _ => rfl)))) (pa_cons (pe_op op_mulX (pe_ix ix_tup (pv 0) pe_int (fun _ _ => rfl)) (pe_ix ix_tup (pv 1) pe_int (fun _ _ => rfl))) pa_nil))))), ?_⟩
  refine rd_ixS rfl h1 rfl (rd_ixS rfl h2 rfl (rd_mul bq br' (by omega) (rd_ixS rfl h2 rfl (rd_ixS rfl h1 rfl (rd_mul br bq' (by omega) (rd_i0 (rd_ixS rfl h1 rfl (rd_ixS rfl h2 rfl (rd_mul bq' br' (by omega) ?_)))))))))
  exact ⟨_, _, rfl, Int.mul_ne_zero (den_ne q) (den_ne r), (bq'.mul br').mono (by omega), fun H' v s f => k H' v s (fr_of (by rw [rat_sum] at f; exact f))⟩
theorem okD_minus (T : Tx K mg w) : FnOk P w K mg base CX0 2 T.f_minus T.d_minus ["one", "other"] (spD_two K (fun q r => q - r) (fun _ => True)) := by
  have G_frac := ok_frac (P := P) (w := w) (base := base) T
  refine T.F_minus.ok sc_minus (fun vs H Q E h => two_lenD h) (fun cdv A outer s H vs Q E hr h => ?_)
  obtain ⟨_, _, q, r, m, n, rfl, f1, f2, ⟨bq, bq'⟩, ⟨br, br'⟩, hmn, ok, k⟩ := h
  obtain ⟨p1, rfl, h1⟩ := fr_inv f1
  obtain ⟨p2, rfl, h2⟩ := fr_inv f2
  refine ⟨_, (pss_one (ps_ret (pe_call G_frac (hr.mono (by first | decide | omega)) (by rfl) T.g_frac T.F_frac.kp T.b_frac .nil pass0 (pa_cons (pe_op op_sub (pe_op op_mulX (pe_ix ix_tup (pv 0) pe_int (fun _ _ => rfl)) (pe_ix ix_tup (pv 1) pe_int (fun _ _ => rfl))) (pe_op op_mulX (pe_ix ix_tup (pv 1) pe_int (fun _ _ => rfl)) (pe_ix ix_tup (pv 0) pe_int (fun _ _ => rfl)))) (pa_cons (pe_op op_mulX (pe_ix ix_tup (pv 0) pe_int (fun _ _ => rfl)) (pe_ix ix_tup (pv 1) pe_int (fun _ _ => rfl))) pa_nil))))), ?_⟩
  refine rd_ixS rfl h1 rfl (rd_ixS rfl h2 rfl (rd_mul bq br' (by omega) (rd_ixS rfl h2 rfl (rd_ixS rfl h1 rfl (rd_mul br bq' (by omega) (rd_i0 (rd_ixS rfl h1 rfl (rd_ixS rfl h2 rfl (rd_mul bq' br' (by omega) ?_)))))))))
  exact ⟨_, _, rfl, Int.mul_ne_zero (den_ne q) (den_ne r), (bq'.mul br').mono (by omega), fun H' v s f => k H' v s (fr_of (by rw [rat_less] at f; exact f))⟩
theorem okD_times (T : Tx K mg w) : FnOk P w K mg base CX0 2 T.f_times T.d_times ["one", "other"] (spD_two K (fun q r => q * r) (fun _ => True)) := by
  have G_frac := ok_frac (P := P) (w := w) (base := base) T
  refine T.F_times.ok sc_times (fun vs H Q E h => two_lenD h) (fun cdv A outer s H vs Q E hr h => ?_)
  obtain ⟨_, _, q, r, m, n, rfl, f1, f2, ⟨bq, bq'⟩, ⟨br, br'⟩, hmn, ok, k⟩ := h
  obtain ⟨p1, rfl, h1⟩ := fr_inv f1
  obtain ⟨p2, rfl, h2⟩ := fr_inv f2
  refine ⟨_, (pss_one (ps_ret (pe_call G_frac (hr.mono (by first | decide | omega)) (by rfl) T.g_frac T.F_frac.kp T.b_frac .nil pass0 (pa_cons (pe_op op_mulX (pe_ix ix_tup (pv 0) pe_int (fun _ _ => rfl)) (pe_ix ix_tup (pv 1) pe_int (fun _ _ => rfl))) (pa_cons (pe_op op_mulX (pe_ix ix_tup (pv 0) pe_int (fun _ _ => rfl)) (pe_ix ix_tup (pv 1) pe_int (fun _ _ => rfl))) pa_nil))))), ?_⟩
  refine rd_ixS rfl h1 rfl (rd_ixS rfl h2 rfl (rd_mul bq br (by omega) (rd_ixS rfl h1 rfl (rd_ixS rfl h2 rfl (rd_mul bq' br' (by omega) ?_)))))
  exact ⟨_, _, rfl, Int.mul_ne_zero (den_ne q) (den_ne r), (bq'.mul br').mono (by omega), fun H' v s f => k H' v s (fr_of (by rw [rat_prod] at f; exact f))⟩
def spD_sign (K : PySem.W.Frag) : Sp := fun vs H Q _ => ∃ v q, vs = [v] ∧ DT K H v (eF q) ∧ Q (.int q.num.sign) H
/-! dot -/
theorem DTs.frs {H : Hp} {i : Nat} {x : V} {xs : List V} {qs : List Rat} (h : DTs K H xs (qs.map eF)) (e : xs[i]? = some x) : ∃ q, qs[i]? = some q ∧ DT K H x (eF q) := by
  obtain ⟨d, hd, h⟩ := h.get' e
  rw [List.getElem?_map] at hd
  cases eq : qs[i]? with
  | none => rw [eq] at hd; cases hd
  | some q => rw [eq] at hd; cases hd; exact ⟨q, rfl, h⟩
def spD_dot (K : PySem.W.Frag) : Sp := fun vs H Q _ => ∃ v1 v2 p q, vs = [v1, v2] ∧ DT K H v1 (eP p) ∧ DT K H v2 (eP q) ∧ p.B 1000 ∧ q.B 1000 ∧ ∀ H' v, Same H H' → DT K H' v (eF (p.dot q)) → Q v H'
theorem okD_dot (T : Tx K mg w) : FnOk P w K mg base CX0 2 T.f_dot T.d_dot ["one", "other"] (spD_dot K) := by
  have G_frac := ok_frac (P := P) (w := w) (base := base) T
  refine T.F_dot.ok sc_dot (fun vs H Q E h => ?_) (fun cdv A outer s H vs Q E hr h => ?_)
  · obtain ⟨_, _, _, _, rfl, _⟩ := h
    rfl
  · obtain ⟨_, _, ⟨x1, x2, x3⟩, ⟨y1, y2, y3⟩, rfl, f1, f2, ⟨b1, b2, b3⟩, ⟨c1, c2, c3⟩, k⟩ := h
    obtain ⟨p1, xs, rfl, h1, a1⟩ := DT.inv f1
    obtain ⟨p2, ys, rfl, h2, a2⟩ := DT.inv f2
    have a1 : DTs K H xs ([x1, x2, x3].map eF) := a1
    have a2 : DTs K H ys ([y1, y2, y3].map eF) := a2
    have b1 : Rs 1000 [x1, x2, x3] := fun q hq => by
      simp only [List.mem_cons, List.not_mem_nil, or_false] at hq
      rcases hq with rfl | rfl | rfl <;> assumption
    have b2 : Rs 1000 [y1, y2, y3] := fun q hq => by
      simp only [List.mem_cons, List.not_mem_nil, or_false] at hq
      rcases hq with rfl | rfl | rfl <;> assumption
    refine ⟨_, (pss_cons (ps_asg (pe_tup (pa_cons pe_int (pa_cons pe_int pa_nil))) (pg_tup (by rfl) (pgs_cons (pg_name (i := 2) sc_dot.nd rfl (Or.inl rfl)) (pgs_cons (pg_name (i := 3) sc_dot.nd rfl (Or.inl rfl)) pgs_nil))))
      (pss_cons (ps_for PassesOwn.never rfl (RZ.pi_zipA (by rfl) T.m_zip (pa_cons (pv 0) (pa_cons (pv 1) pa_nil))) (pg_tup (by rfl) (pgs_cons (pg_name (i := 4) sc_dot.nd rfl (Or.inl rfl)) (pgs_cons (pg_name (i := 5) sc_dot.nd rfl (Or.inl rfl)) pgs_nil))) (pss_cons (ps_set (i := 6) sc_dot.nd rfl (Or.inl rfl) (pe_op op_mulX (pe_ix ix_tup (pv 4) pe_int (fun _ _ => rfl)) (pe_ix ix_tup (pv 5) pe_int (fun _ _ => rfl))))
      (pss_cons (ps_set (i := 2) sc_dot.nd rfl (Or.inl rfl) (pe_op op_add (pe_op op_mulX (pv 2) (pv 6)) (pe_op op_mulX (pe_op op_mulX (pe_ix ix_tup (pv 4) pe_int (fun _ _ => rfl)) (pe_ix ix_tup (pv 5) pe_int (fun _ _ => rfl))) (pv 3))))
      (pss_one (ps_set (i := 3) sc_dot.nd rfl (Or.inl rfl) (pe_op op_mulX (pv 3) (pv 6)))))))
      (pss_one (ps_ret (pe_call G_frac (hr.mono (by first | decide | omega)) (by rfl) T.g_frac T.F_frac.kp T.b_frac .nil pass0 (pa_cons (pv 2) (pa_cons (pv 3) pa_nil))))))), ?_⟩
    have hl : xs.length = 3 := a1.len
    have hl2 : ys.length = 3 := a2.len
    refine ⟨sz_n (by decide : 2 ≤ 1000), fun t0 n0 => ⟨t0, _, rfl, SqT.of upd_same, rfl, _, _, rfl, _, _, rfl, rfl, .ref p1, rfl, .ref p2, rfl, p1, p2, xs, ys, rfl, .inr ⟨(h1.tk (tk_new n0)).sq, (h2.tk (tk_new n0)).sq, ?_⟩⟩⟩
    refine RZ.for_zipT (hl.trans hl2.symm) (fun i σ H' => i ≤ 3 ∧ Same H H' ∧ ∃ (a b : Int) (y4 y5 y6 : Option V), σ = [some (.ref p1), some (.ref p2), some (.int a), some (.int b), y4, y5, y6] ∧ b ≠ 0 ∧ Bt (2001 * i + 1) a ∧ Bt (2001 * i + 1) b ∧ Rat.divInt a b = rsum ((prods [x1, x2, x3] [y1, y2, y3]).take i))
      ⟨by decide, same_upd n0, 0, 1, none, none, none, rfl, by decide, bt_lit (by decide), bt_lit (by decide), rfl⟩ (fun i σ H' h => ⟨same_tup h.2.1 h1.sq, same_tup h.2.1 h2.sq⟩) (fun i x y t σ H' hx hy h nt => ?_) (fun σ H' h => ?_)
    · obtain ⟨hi, hS, a, b, y4, y5, y6, rfl, hb, ba, bb, e⟩ := h
      obtain ⟨q, hq, f1⟩ := a1.frs hx
      obtain ⟨r, hr', f2⟩ := a2.frs hy
      have hi3 : i < 3 := by
        have := (List.getElem?_eq_some_iff.mp hx).1
        omega
      have sT : Same H (upd H' t (.tup [x, y])) := hS.trans (same_upd nt)
      obtain ⟨px, rfl, hx'⟩ := fr_inv (f1.same sT)
      obtain ⟨py, rfl, hy'⟩ := fr_inv (f2.same sT)
      obtain ⟨c1, c1'⟩ := rs_get b1 hq
      obtain ⟨c2, c2'⟩ := rs_get b2 hr'
      refine ⟨t, _, rfl, SqT.of upd_same, rfl, _, _, rfl, _, _, rfl, rfl, ?_⟩
      refine ⟨_, rfl, px, _, 1, _, rfl, rfl, hx', rfl, _, rfl, py, _, 1, _, rfl, rfl, hy', rfl, (q.den : Int), (r.den : Int), rfl, rfl, mulx_ok c1' c2' (by decide), ?_⟩
      refine ⟨_, rfl, _, rfl, a, _, rfl, rfl, mulx_ok ba (c1'.mul c2') (by omega), _, rfl, px, _, 0, _, rfl, rfl, hx', rfl, _, rfl, py, _, 0, _, rfl, rfl, hy', rfl, q.num, r.num, rfl, rfl, mulx_ok c1 c2 (by decide), _, rfl, _, b, rfl, rfl, mulx_ok (c1.mul c2) bb (by omega), _, _, rfl, rfl, ?_⟩
      refine ⟨_, rfl, _, rfl, b, _, rfl, rfl, mulx_ok bb (c1'.mul c2') (by omega), ?_⟩
      refine ⟨by omega, sT, _, _, _, _, _, rfl, Int.mul_ne_zero hb (Int.mul_ne_zero (den_ne q) (den_ne r)), ?_, ?_, ?_⟩
      · exact (((ba.mul (c1'.mul c2')).mono (show _ ≤ 2001 * i + 2001 by omega)).add (((c1.mul c2).mul bb).mono (show _ ≤ 2001 * i + 2001 by omega))).mono (by omega)
      · exact (bb.mul (c1'.mul c2')).mono (by omega)
      · rw [dot_step hq hr']
        exact dot_turn hb e
    · rw [hl] at h
      obtain ⟨_, hS, a, b, y4, y5, y6, rfl, hb, ba, bb, e⟩ := h
      refine ⟨_, rfl, _, rfl, a, b, rfl, hb, bb.mono (by decide), fun H2 v s2 f2 => k H2 v (hS.trans s2) ?_⟩
      rw [e, show rsum ((prods [x1, x2, x3] [y1, y2, y3]).take 3) = P3.dot ⟨x1, x2, x3⟩ ⟨y1, y2, y3⟩ by
        show rsum [x1 * y1, x2 * y2, x3 * y3] = x1 * y1 + x2 * y2 + x3 * y3
        simp only [rsum]; grind] at f2
      exact fr_of f2
/-! points -/
def spD_ptpt (K : PySem.W.Frag) (f : P3 → P3 → P3) : Sp := fun vs H Q _ => ∃ v1 v2 p q, vs = [v1, v2] ∧ DT K H v1 (eP p) ∧ DT K H v2 (eP q) ∧ p.B 4000 ∧ q.B 4000 ∧ ∀ H' v, Same H H' → DT K H' v (eP (f p q)) → Q v H'
theorem okD_together (T : Tx K mg w) : FnOk P w K mg base CX0 3 T.f_together T.d_together ["one", "other"] (spD_ptpt K P3.add) := by
  have G_plus := okD_plus (P := P) (w := w) (base := base) T
  refine T.F_together.ok sc_together (fun vs H Q E h => ?_) (fun cdv A outer s H vs Q E hr h => ?_)
  · obtain ⟨_, _, _, _, rfl, _⟩ := h
    rfl
  obtain ⟨v1, v2, p, q, rfl, h1, h2, ⟨b1, b2, b3⟩, ⟨c1, c2, c3⟩, k⟩ := h
  refine ⟨_, (pss_one (ps_ret (pe_tup (pa_cons (pe_call G_plus (hr.mono (by first | decide | omega)) (by rfl) T.g_plus T.F_plus.kp T.b_plus .nil pass0 (pa_cons (pe_ix ix_tup (pv 0) pe_int (fun _ _ => rfl)) (pa_cons (pe_ix ix_tup (pv 1) pe_int (fun _ _ => rfl)) pa_nil))) (pa_cons (pe_call G_plus (hr.mono (by first | decide | omega)) (by rfl) T.g_plus T.F_plus.kp T.b_plus .nil pass0 (pa_cons (pe_ix ix_tup (pv 0) pe_int (fun _ _ => rfl)) (pa_cons (pe_ix ix_tup (pv 1) pe_int (fun _ _ => rfl)) pa_nil))) (pa_cons (pe_call G_plus (hr.mono (by first | decide | omega)) (by rfl) T.g_plus T.F_plus.kp T.b_plus .nil pass0 (pa_cons (pe_ix ix_tup (pv 0) pe_int (fun _ _ => rfl)) (pa_cons (pe_ix ix_tup (pv 1) pe_int (fun _ _ => rfl)) pa_nil))) pa_nil)))))), ?_⟩
  refine rd_dt (j := 0) rfl h1 rfl fun x hx => rd_dt (j := 0) rfl h2 rfl fun y hy => ⟨_, _, _, _, 4000, 4000, rfl, hx, hy, b1, c1, by decide, trivial, fun H1 w1 S1 z1 => ?_⟩
  refine rd_dt (j := 1) rfl (h1.same S1) rfl fun x hx => rd_dt (j := 1) rfl (h2.same S1) rfl fun y hy => ⟨_, _, _, _, 4000, 4000, rfl, hx, hy, b2, c2, by decide, trivial, fun H2 w2 S2 z2 => ?_⟩
  have S12 := S1.trans S2
  refine rd_dt (j := 2) rfl (h1.same S12) rfl fun x hx => rd_dt (j := 2) rfl (h2.same S12) rfl fun y hy => ⟨_, _, _, _, 4000, 4000, rfl, hx, hy, b3, c3, by decide, trivial, fun H3 w3 S3 z3 => ?_⟩
  have S13 := S12.trans S3
  exact ⟨sz_n (by decide : 3 ≤ 1000), fun p hp => k _ _ (S13.trans (same_upd hp)) (dt3 hp (z1.same (S2.trans S3)) (z2.same S3) z3)⟩
end

/-! ### comprehensions that make data -/
section
variable {K : PySem.W.Frag}
theorem dts_snoc {H : Hp} {ys : List V} {ds : List PyData} {i : Nat} {y : V} {d : PyData} (h : DTs K H ys (ds.take i)) (e : ds[i]? = some d) (hy : DT K H y d) : DTs K H (ys ++ [y]) (ds.take (i + 1)) := by
  have hi := (List.getElem?_eq_some_iff.mp e).1
  have := (List.getElem?_eq_some_iff.mp e).2
  rw [List.take_succ_eq_append_getElem hi, this]
  exact h.append (.cons hy .nil)
def MapP (K : PySem.W.Frag) (H1 : Hp) (D : Addr) (ds : List PyData) (i : Nat) (H : Hp) : Prop := Same H1 H ∧ ∃ ys : List V, H D = some (.lst ys) ∧ DTs K H ys (ds.take i) ∧ ys.length = i
theorem MapP.start {H1 : Hp} {D : Addr} {ds : List PyData} (hn : H1 D = none) : MapP K H1 D ds 0 (upd H1 D (.lst [])) := ⟨same_upd hn, [], upd_same, .nil, rfl⟩
theorem MapP.next {H1 H H4 : Hp} {D : Addr} {ds : List PyData} {i : Nat} {y : V} {d : PyData} (hn : H1 D = none) (h : MapP K H1 D ds i H) (S : Same H H4) (e : ds[i]? = some d) (hy : DT K H4 y d) (hl : ds.length ≤ 1000) :
    ∃ acc, H4 D = some (.lst acc) ∧ acc.length < sizeLine ∧ MapP K H1 D ds (i + 1) (upd H4 D (.lst (acc ++ [y]))) := by
  obtain ⟨S1, ys, hD, hs, hlen⟩ := h
  have hD4 := S _ _ hD
  have hi := (List.getElem?_eq_some_iff.mp e).1
  refine ⟨ys, hD4, Nat.lt_of_le_of_lt (show ys.length ≤ 1000 by omega) (by decide), fun a o ho => ?_, _, upd_same, ?_, ?_⟩
  · rw [upd_ne (ne_of_none ho hn)]
    exact S _ _ (S1 _ _ ho)
  · exact dts_snoc (((hs.tk (Same.tk S)).tk (tk_lst hD4))) e (hy.tk (tk_lst hD4))
  · rw [List.length_append, hlen]; rfl
theorem lc_mapT {a : Addr} {xs : List V} {g : TG} {te : TE} {vs : List Nat} {σ : L2.St} {H1 : Hp} {D : Addr} {Qd : Hp → Prop} (ds : List PyData) (hn : H1 D = none) (ha : SqT K H1 a xs) (hl : ds.length = xs.length) (hz : ds.length ≤ 1000)
    (hs : ∀ (i : Nat) x H d, xs[i]? = some x → ds[i]? = some d → Same H1 H → ∀ R : VK, (∀ y H4, Same H H4 → DT K H4 y d → R y H4) → g x (wipe σ vs) H fun σ2 H2 => wipe σ2 vs = wipe σ vs ∧ te σ2 H2 R)
    (hd : ∀ H ys, Same H1 H → H D = some (.lst ys) → DTs K H ys ds → Qd H) :
    ∃ W : Nat → Nat → Hp → Prop, (∃ m, W 0 m (upd H1 D (.lst []))) ∧ ∀ i m H, W i m H →
      ((Itt K a).stop i H ∧ Qd H) ∨ ((Itt K a).go i H ∧ ∃ Nx : Hp → Prop, (∀ H', Nx H' → ∃ m', m' < m ∧ W (i + 1) m' H') ∧ ∀ x H', (Itt K a).yld i H x H' → g x (wipe σ vs) H' fun σ2 H2 => wipe σ2 vs = wipe σ vs ∧ tYes σ2 H2 fun b H3 =>
        if b = true then te σ2 H3 fun y H4 => ∃ acc, H4 D = some (.lst acc) ∧ acc.length < sizeLine ∧ Nx (upd H4 D (.lst (acc ++ [y]))) else Nx H3) := by
  refine lc_tup (K := K) (a := a) (xs := xs) (MapP K H1 D ds) (MapP.start hn) (fun i H _ p => same_tup p.1 ha) (fun i x H hx p => ?_) (fun H p => ?_)
  · have hi : i < ds.length := by rw [hl]; exact (List.getElem?_eq_some_iff.mp hx).1
    exact hs i x H _ hx (List.getElem?_eq_getElem hi) p.1 _ fun y H4 S hy => p.next hn S (List.getElem?_eq_getElem hi) hy hz
  · obtain ⟨S, ys, hD, h, _⟩ := p
    rw [← hl, List.take_length] at h
    exact hd H ys S hD h
theorem lc_mapR {n : Nat} {g : TG} {te : TE} {vs : List Nat} {σ : L2.St} {H1 : Hp} {D : Addr} {Qd : Hp → Prop} (ds : List PyData) (hn : H1 D = none) (hl : ds.length = n) (hz : n ≤ 1000)
    (hs : ∀ (i : Nat) H d, i < n → ds[i]? = some d → Same H1 H → ∀ R : VK, (∀ y H4, Same H H4 → DT K H4 y d → R y H4) → g (.int (0 + i)) (wipe σ vs) H fun σ2 H2 => wipe σ2 vs = wipe σ vs ∧ te σ2 H2 R)
    (hd : ∀ H ys, Same H1 H → H D = some (.lst ys) → DTs K H ys ds → Qd H) :
    ∃ W : Nat → Nat → Hp → Prop, (∃ m, W 0 m (upd H1 D (.lst []))) ∧ ∀ i m H, W i m H →
      ((Itr 0 n).stop i H ∧ Qd H) ∨ ((Itr 0 n).go i H ∧ ∃ Nx : Hp → Prop, (∀ H', Nx H' → ∃ m', m' < m ∧ W (i + 1) m' H') ∧ ∀ x H', (Itr 0 n).yld i H x H' → g x (wipe σ vs) H' fun σ2 H2 => wipe σ2 vs = wipe σ vs ∧ tYes σ2 H2 fun b H3 =>
        if b = true then te σ2 H3 fun y H4 => ∃ acc, H4 D = some (.lst acc) ∧ acc.length < sizeLine ∧ Nx (upd H4 D (.lst (acc ++ [y]))) else Nx H3) := by
  refine lc_range (lo := 0) (n := n) (MapP K H1 D ds) (MapP.start hn) (fun i H hi p => ?_) (fun H p => ?_)
  · have hi' : i < ds.length := by rw [hl]; exact hi
    exact hs i H _ hi (List.getElem?_eq_getElem hi') p.1 _ fun y H4 S hy => p.next hn S (List.getElem?_eq_getElem hi') hy (by rw [hl]; exact hz)
  · obtain ⟨S, ys, hD, h, _⟩ := p
    rw [← hl, List.take_length] at h
    exact hd H ys S hD h
end

/-! ### points, further; turns -/
section
variable {P : Program} {w : World} {K : PySem.W.Frag} {mg : Str → Option Value} {base : Heap}
theorem rd_dt2 {i : Nat} {x : V} {σ : L2.St} {H : Hp} {ds es : List PyData} {j k : Nat} {d : PyData} {Q : VK} (hx : σ[i]? = some (some x)) (h : DT K H x (.tuple ds)) (e : ds[j]? = some (.tuple es)) (e' : es[k]? = some d) (q : ∀ y, DT K H y d → Q y H) :
    tOp (rIxT K) (tOp (rIxT K) (tVar i) (tC (.int (j : Int)))) (tC (.int (k : Int))) σ H Q := ⟨x, hx, rd_c (rx_dt h e fun _ hy => rd_c (rx_dt hy e' q))⟩
def spD_scale (K : PySem.W.Frag) : Sp := fun vs H Q _ => ∃ v1 v2 p k, vs = [v1, v2] ∧ DT K H v1 (eP p) ∧ DT K H v2 (eF k) ∧ p.B 4000 ∧ Rb 4000 k ∧ ∀ H' v, Same H H' → DT K H' v (eP (p.scale k)) → Q v H'
theorem okD_stretched (T : Tx K mg w) : FnOk P w K mg base CX0 3 T.f_stretched T.d_stretched ["way", "by"] (spD_scale K) := by
  have G_times := okD_times (P := P) (w := w) (base := base) T
  refine T.F_stretched.ok sc_stretched (fun vs H Q E h => ?_) (fun cdv A outer s H vs Q E hr h => ?_)
  · obtain ⟨_, _, _, _, rfl, _⟩ := h
    rfl
  obtain ⟨v1, v2, p, c, rfl, h1, h2, ⟨b1, b2, b3⟩, bc, k⟩ := h
  refine ⟨_, (pss_one (ps_ret (pe_tup (pa_cons (pe_call G_times (hr.mono (by first | decide | omega)) (by rfl) T.g_times T.F_times.kp T.b_times .nil pass0 (pa_cons (pe_ix ix_tup (pv 0) pe_int (fun _ _ => rfl)) (pa_cons (pv 1) pa_nil))) (pa_cons (pe_call G_times (hr.mono (by first | decide | omega)) (by rfl) T.g_times T.F_times.kp T.b_times .nil pass0 (pa_cons (pe_ix ix_tup (pv 0) pe_int (fun _ _ => rfl)) (pa_cons (pv 1) pa_nil))) (pa_cons (pe_call G_times (hr.mono (by first | decide | omega)) (by rfl) T.g_times T.F_times.kp T.b_times .nil pass0 (pa_cons (pe_ix ix_tup (pv 0) pe_int (fun _ _ => rfl)) (pa_cons (pv 1) pa_nil))) pa_nil)))))), ?_⟩
  refine rd_dt (j := 0) rfl h1 rfl fun x hx => ⟨_, rfl, _, _, _, _, 4000, 4000, rfl, hx, h2, b1, bc, by decide, trivial, fun H1 w1 S1 z1 => ?_⟩
  refine rd_dt (j := 1) rfl (h1.same S1) rfl fun x hx => ⟨_, rfl, _, _, _, _, 4000, 4000, rfl, hx, h2.same S1, b2, bc, by decide, trivial, fun H2 w2 S2 z2 => ?_⟩
  have S12 := S1.trans S2
  refine rd_dt (j := 2) rfl (h1.same S12) rfl fun x hx => ⟨_, rfl, _, _, _, _, 4000, 4000, rfl, hx, h2.same S12, b3, bc, by decide, trivial, fun H3 w3 S3 z3 => ?_⟩
  have S13 := S12.trans S3
  exact ⟨sz_n (by decide : 3 ≤ 1000), fun p hp => k _ _ (S13.trans (same_upd hp)) (dt3 hp (z1.same (S2.trans S3)) (z2.same S3) z3)⟩
def spD_app (K : PySem.W.Frag) : Sp := fun vs H Q _ => ∃ v1 v2 t p, vs = [v1, v2] ∧ DT K H v1 (eT t) ∧ DT K H v2 (eP p) ∧ t.B 1000 ∧ p.B 1000 ∧ ∀ H' v, Same H H' → DT K H' v (eP (t.app p)) → Q v H'
theorem okD_turned (T : Tx K mg w) : FnOk P w K mg base CX0 3 T.f_turned T.d_turned ["turn", "way"] (spD_app K) := by
  have G_dot := okD_dot (P := P) (w := w) (base := base) T
  refine T.F_turned.ok sc_turned (fun vs H Q E h => ?_) (fun cdv A outer s H vs Q E hr h => ?_)
  · obtain ⟨_, _, _, _, rfl, _⟩ := h
    rfl
  obtain ⟨v1, v2, t, p, rfl, h1, h2, ⟨b1, b2, b3⟩, bp, k⟩ := h
  refine ⟨_, (pss_one (ps_ret (pe_tup (pa_cons (pe_call G_dot (hr.mono (by first | decide | omega)) (by rfl) T.g_dot T.F_dot.kp T.b_dot .nil pass0 (pa_cons (pe_ix ix_tup (pv 0) pe_int (fun _ _ => rfl)) (pa_cons (pv 1) pa_nil))) (pa_cons (pe_call G_dot (hr.mono (by first | decide | omega)) (by rfl) T.g_dot T.F_dot.kp T.b_dot .nil pass0 (pa_cons (pe_ix ix_tup (pv 0) pe_int (fun _ _ => rfl)) (pa_cons (pv 1) pa_nil))) (pa_cons (pe_call G_dot (hr.mono (by first | decide | omega)) (by rfl) T.g_dot T.F_dot.kp T.b_dot .nil pass0 (pa_cons (pe_ix ix_tup (pv 0) pe_int (fun _ _ => rfl)) (pa_cons (pv 1) pa_nil))) pa_nil)))))), ?_⟩
  refine rd_dt (j := 0) rfl h1 rfl fun x hx => ⟨_, rfl, _, _, _, _, rfl, hx, h2, b1, bp, fun H1 w1 S1 z1 => ?_⟩
  refine rd_dt (j := 1) rfl (h1.same S1) rfl fun x hx => ⟨_, rfl, _, _, _, _, rfl, hx, h2.same S1, b2, bp, fun H2 w2 S2 z2 => ?_⟩
  have S12 := S1.trans S2
  refine rd_dt (j := 2) rfl (h1.same S12) rfl fun x hx => ⟨_, rfl, _, _, _, _, rfl, hx, h2.same S12, b3, bp, fun H3 w3 S3 z3 => ?_⟩
  have S13 := S12.trans S3
  exact ⟨sz_n (by decide : 3 ≤ 1000), fun p hp => k _ _ (S13.trans (same_upd hp)) (dt3 hp (z1.same (S2.trans S3)) (z2.same S3) z3)⟩
def spD_cols (K : PySem.W.Frag) : Sp := fun vs H Q _ => ∃ v t, vs = [v] ∧ DT K H v (eT t) ∧ ∀ H' v, Same H H' → DT K H' v (eT t.tr) → Q v H'
theorem okD_columns_of (T : Tx K mg w) : FnOk P w K mg base CX0 1 T.f_columns_of T.d_columns_of ["turn"] (spD_cols K) := by
  refine T.F_columns_of.ok sc_columns_of (fun vs H Q E h => ?_) (fun cdv A outer s H vs Q E hr h => ?_)
  · obtain ⟨_, _, rfl, _⟩ := h
    rfl
  obtain ⟨v, t, rfl, h, k⟩ := h
  refine ⟨_, (pss_one (ps_ret (pe_tup (pa_cons (pe_tup (pa_cons (pe_ix ix_tup (pe_ix ix_tup (pv 0) pe_int (fun _ _ => rfl)) pe_int (fun _ _ => rfl)) (pa_cons (pe_ix ix_tup (pe_ix ix_tup (pv 0) pe_int (fun _ _ => rfl)) pe_int (fun _ _ => rfl)) (pa_cons (pe_ix ix_tup (pe_ix ix_tup (pv 0) pe_int (fun _ _ => rfl)) pe_int (fun _ _ => rfl)) pa_nil)))) (pa_cons (pe_tup (pa_cons (pe_ix ix_tup (pe_ix ix_tup (pv 0) pe_int (fun _ _ => rfl)) pe_int (fun _ _ => rfl)) (pa_cons (pe_ix ix_tup (pe_ix ix_tup (pv 0) pe_int (fun _ _ => rfl)) pe_int (fun _ _ => rfl)) (pa_cons (pe_ix ix_tup (pe_ix ix_tup (pv 0) pe_int (fun _ _ => rfl)) pe_int (fun _ _ => rfl)) pa_nil)))) (pa_cons (pe_tup (pa_cons (pe_ix ix_tup (pe_ix ix_tup (pv 0) pe_int (fun _ _ => rfl)) pe_int (fun _ _ => rfl)) (pa_cons (pe_ix ix_tup (pe_ix ix_tup (pv 0) pe_int (fun _ _ => rfl)) pe_int (fun _ _ => rfl)) (pa_cons (pe_ix ix_tup (pe_ix ix_tup (pv 0) pe_int (fun _ _ => rfl)) pe_int (fun _ _ => rfl)) pa_nil)))) pa_nil)))))), ?_⟩
  refine rd_dt2 (j := 0) (k := 0) rfl h rfl rfl fun x1 e1 => rd_dt2 (j := 1) (k := 0) rfl h rfl rfl fun x2 e2 => rd_dt2 (j := 2) (k := 0) rfl h rfl rfl fun x3 e3 => ⟨sz_n (by decide : 3 ≤ 1000), fun p hp => ?_⟩
  have h1 := h.same (same_upd hp (o := .tup [x1, x2, x3]))
  have c1 := dt3 hp e1 e2 e3
  have S1 := same_upd hp (o := .tup [x1, x2, x3])
  generalize upd H p (.tup [x1, x2, x3]) = H1 at h1 c1 S1 ⊢
  refine rd_dt2 (j := 0) (k := 1) rfl h1 rfl rfl fun x1 e1 => rd_dt2 (j := 1) (k := 1) rfl h1 rfl rfl fun x2 e2 => rd_dt2 (j := 2) (k := 1) rfl h1 rfl rfl fun x3 e3 => ⟨sz_n (by decide : 3 ≤ 1000), fun p2 hp2 => ?_⟩
  have h2 := h1.same (same_upd hp2 (o := .tup [x1, x2, x3]))
  have c2 := dt3 hp2 e1 e2 e3
  have S2 := same_upd hp2 (o := .tup [x1, x2, x3])
  generalize upd H1 p2 (.tup [x1, x2, x3]) = H2 at h2 c2 S2 ⊢
  refine rd_dt2 (j := 0) (k := 2) rfl h2 rfl rfl fun x1 e1 => rd_dt2 (j := 1) (k := 2) rfl h2 rfl rfl fun x2 e2 => rd_dt2 (j := 2) (k := 2) rfl h2 rfl rfl fun x3 e3 => ⟨sz_n (by decide : 3 ≤ 1000), fun p3 hp3 => ?_⟩
  have c3 := dt3 hp3 e1 e2 e3
  have S3 := same_upd hp3 (o := .tup [x1, x2, x3])
  generalize upd H2 p3 (.tup [x1, x2, x3]) = H3 at c3 S3 ⊢
  exact ⟨sz_n (by decide : 3 ≤ 1000), fun p4 hp4 => k _ _ (((S1.trans S2).trans S3).trans (same_upd hp4)) (dt3 hp4 (c1.same (S2.trans S3)) (c2.same S3) c3)⟩
/-- a turn about an axis -/
def rotT (ax : Str) (c s : Rat) : T3 := if ax = "x" then ⟨⟨1, 0, 0⟩, ⟨0, c, 0 - s⟩, ⟨0, s, c⟩⟩ else if ax = "y" then ⟨⟨c, 0, s⟩, ⟨0, 1, 0⟩, ⟨0 - s, 0, c⟩⟩ else ⟨⟨c, 0 - s, 0⟩, ⟨s, c, 0⟩, ⟨0, 0, 1⟩⟩
def spD_about (K : PySem.W.Frag) : Sp := fun vs H Q _ => ∃ ax v1 v2 c s, vs = [.str ax, v1, v2] ∧ DT K H v1 (eF c) ∧ DT K H v2 (eF s) ∧ Rb 4000 s ∧ ∀ H' v, Same H H' → DT K H' v (eT (rotT ax c s)) → Q v H'
theorem rb01 : Rb 4000 0 := ⟨bt_lit (by show (0 : Nat) < _; exact Nat.pow_pos (by decide)), Bt.mono (m := 1) (bt_lit (by decide)) (by decide)⟩
theorem vstr_eq {a b : Str} (h : decide (V.str a = V.str b) = true) : a = b := V.str.inj (of_decide_eq_true h)
theorem vstr_ne {a b : Str} (h : ¬ decide (V.str a = V.str b) = true) : ¬ a = b := fun e => h (decide_eq_true (congrArg V.str e))
/-- three rows of three things each, laid as tuples one behind another -/
theorem rows3 {te11 te12 te13 te21 te22 te23 te31 te32 te33 : TE} {σ : L2.St} {H : Hp} {Q : VK} {d11 d12 d13 d21 d22 d23 d31 d32 d33 : PyData}
    (r : ∀ H', Same H H' → ∀ (te : TE) (d : PyData), (te = te11 ∧ d = d11 ∨ te = te12 ∧ d = d12 ∨ te = te13 ∧ d = d13 ∨ te = te21 ∧ d = d21 ∨ te = te22 ∧ d = d22 ∨ te = te23 ∧ d = d23 ∨ te = te31 ∧ d = d31 ∨ te = te32 ∧ d = d32 ∨ te = te33 ∧ d = d33) → ∀ R : VK, (∀ x, DT K H' x d → R x H') → te σ H' R)
    (k : ∀ H' v, Same H H' → DT K H' v (.tuple [.tuple [d11, d12, d13], .tuple [d21, d22, d23], .tuple [d31, d32, d33]]) → Q v H') :
    tTup (tCons (tTup (tCons te11 (tCons te12 (tCons te13 tNil)))) (tCons (tTup (tCons te21 (tCons te22 (tCons te23 tNil)))) (tCons (tTup (tCons te31 (tCons te32 (tCons te33 tNil)))) tNil))) σ H Q := by
  refine r H (Same.refl _) te11 d11 (by simp) _ fun x1 e1 => r H (Same.refl _) te12 d12 (by simp) _ fun x2 e2 => r H (Same.refl _) te13 d13 (by simp) _ fun x3 e3 => ⟨sz_n (by decide : 3 ≤ 1000), fun p hp => ?_⟩
  have c1 := dt3 hp e1 e2 e3
  have S1 := same_upd hp (o := .tup [x1, x2, x3])
  generalize upd H p (.tup [x1, x2, x3]) = H1 at c1 S1 ⊢
  refine r H1 S1 te21 d21 (by simp) _ fun x1 e1 => r H1 S1 te22 d22 (by simp) _ fun x2 e2 => r H1 S1 te23 d23 (by simp) _ fun x3 e3 => ⟨sz_n (by decide : 3 ≤ 1000), fun p2 hp2 => ?_⟩
  have c2 := dt3 hp2 e1 e2 e3
  have S2 := same_upd hp2 (o := .tup [x1, x2, x3])
  generalize upd H1 p2 (.tup [x1, x2, x3]) = H2 at c2 S2 ⊢
  have S12 := S1.trans S2
  refine r H2 S12 te31 d31 (by simp) _ fun x1 e1 => r H2 S12 te32 d32 (by simp) _ fun x2 e2 => r H2 S12 te33 d33 (by simp) _ fun x3 e3 => ⟨sz_n (by decide : 3 ≤ 1000), fun p3 hp3 => ?_⟩
  have c3 := dt3 hp3 e1 e2 e3
  have S3 := same_upd hp3 (o := .tup [x1, x2, x3])
  generalize upd H2 p3 (.tup [x1, x2, x3]) = H3 at c3 S3 ⊢
  exact ⟨sz_n (by decide : 3 ≤ 1000), fun p4 hp4 => k _ _ ((S12.trans S3).trans (same_upd hp4)) (dt3 hp4 (c1.same (S2.trans S3)) (c2.same S3) c3)⟩
theorem okD_turn_about (T : Tx K mg w) : FnOk P w K mg base CX0 3 T.f_turn_about T.d_turn_about ["axis", "cosine", "sine"] (spD_about K) := by
  have G_minus := okD_minus (P := P) (w := w) (base := base) T
  refine T.F_turn_about.ok sc_turn_about (fun vs H Q E h => ?_) (fun cdv A outer s H vs Q E hr h => ?_)
  · obtain ⟨_, _, _, _, _, rfl, _⟩ := h
    rfl
  obtain ⟨ax, v1, v2, c, s, rfl, h1, h2, bs, k⟩ := h
  refine ⟨_, (pss_cons (ps_set (i := 3) sc_turn_about.nd rfl (Or.inl rfl) (pe_call G_minus (hr.mono (by first | decide | omega)) (by rfl) T.g_minus T.F_minus.kp T.b_minus .nil pass0 (pa_cons (pe_glob (v := .ref T.a_NOUGHT) (by rfl) T.g_NOUGHT rfl) (pa_cons (pv 2) pa_nil))))
      (pss_cons (ps_if (pt_cmpR op_eq (pv 0) pe_str (nomark _)) (pss_one (ps_ret (pe_tup (pa_cons (pe_tup (pa_cons (pe_glob (v := .ref T.a_ONE) (by rfl) T.g_ONE rfl) (pa_cons (pe_glob (v := .ref T.a_NOUGHT) (by rfl) T.g_NOUGHT rfl) (pa_cons (pe_glob (v := .ref T.a_NOUGHT) (by rfl) T.g_NOUGHT rfl) pa_nil)))) (pa_cons (pe_tup (pa_cons (pe_glob (v := .ref T.a_NOUGHT) (by rfl) T.g_NOUGHT rfl) (pa_cons (pv 1) (pa_cons (pv 3) pa_nil)))) (pa_cons (pe_tup (pa_cons (pe_glob (v := .ref T.a_NOUGHT) (by rfl) T.g_NOUGHT rfl) (pa_cons (pv 2) (pa_cons (pv 1) pa_nil)))) pa_nil)))))) pss_nil)
      (pss_cons (ps_if (pt_cmpR op_eq (pv 0) pe_str (nomark _)) (pss_one (ps_ret (pe_tup (pa_cons (pe_tup (pa_cons (pv 1) (pa_cons (pe_glob (v := .ref T.a_NOUGHT) (by rfl) T.g_NOUGHT rfl) (pa_cons (pv 2) pa_nil)))) (pa_cons (pe_tup (pa_cons (pe_glob (v := .ref T.a_NOUGHT) (by rfl) T.g_NOUGHT rfl) (pa_cons (pe_glob (v := .ref T.a_ONE) (by rfl) T.g_ONE rfl) (pa_cons (pe_glob (v := .ref T.a_NOUGHT) (by rfl) T.g_NOUGHT rfl) pa_nil)))) (pa_cons (pe_tup (pa_cons (pv 3) (pa_cons (pe_glob (v := .ref T.a_NOUGHT) (by rfl) T.g_NOUGHT rfl) (pa_cons (pv 1) pa_nil)))) pa_nil)))))) pss_nil)
      (pss_one (ps_ret (pe_tup (pa_cons (pe_tup (pa_cons (pv 1) (pa_cons (pv 3) (pa_cons (pe_glob (v := .ref T.a_NOUGHT) (by rfl) T.g_NOUGHT rfl) pa_nil)))) (pa_cons (pe_tup (pa_cons (pv 2) (pa_cons (pv 1) (pa_cons (pe_glob (v := .ref T.a_NOUGHT) (by rfl) T.g_NOUGHT rfl) pa_nil)))) (pa_cons (pe_tup (pa_cons (pe_glob (v := .ref T.a_NOUGHT) (by rfl) T.g_NOUGHT rfl) (pa_cons (pe_glob (v := .ref T.a_NOUGHT) (by rfl) T.g_NOUGHT rfl) (pa_cons (pe_glob (v := .ref T.a_ONE) (by rfl) T.g_ONE rfl) pa_nil)))) pa_nil))))))))), ?_⟩
  rw [show L2.start nm_turn_about [.str ax, v1, v2] = [some (.str ax), some v1, some v2, none] from rfl]
  refine ⟨_, rfl, _, _, _, _, 4000, 4000, rfl, (show DT K H (.ref T.a_NOUGHT) (eF 0) from T.k_NOUGHT H), h2, rb01, bs, by decide, trivial, fun H1 wb S1 zb => ?_⟩
  dsimp only [gName, List.set_cons_succ, List.set_cons_zero]
  have h1 := h1.same S1
  have h2 := h2.same S1
  have n0 : ∀ H, DT K H (.ref T.a_NOUGHT) (eF 0) := T.k_NOUGHT
  have n1 : ∀ H, DT K H (.ref T.a_ONE) (eF 1) := T.k_ONE
  refine ⟨_, rfl, rfl, _, rfl, ite2 (fun e => ?_) (fun e => ?_)⟩
  · have e := vstr_eq e
    refine rows3 (K := K) (d11 := eF 1) (d12 := eF 0) (d13 := eF 0) (d21 := eF 0) (d22 := eF c) (d23 := eF (0 - s)) (d31 := eF 0) (d32 := eF s) (d33 := eF c) (fun H' S te d hh R q => ?_) (fun H' v S hv => k H' v (S1.trans S) (by unfold rotT; rw [if_pos e]; exact hv))
    rcases hh with ⟨rfl, rfl⟩ | ⟨rfl, rfl⟩ | ⟨rfl, rfl⟩ | ⟨rfl, rfl⟩ | ⟨rfl, rfl⟩ | ⟨rfl, rfl⟩ | ⟨rfl, rfl⟩ | ⟨rfl, rfl⟩ | ⟨rfl, rfl⟩ <;>
      first | exact q _ (n1 _) | exact q _ (n0 _) | exact ⟨_, rfl, q _ (h1.same S)⟩ | exact ⟨_, rfl, q _ (h2.same S)⟩ | exact ⟨_, rfl, q _ (zb.same S)⟩
  have e1 := vstr_ne e
  refine ⟨_, rfl, rfl, _, rfl, ite2 (fun e => ?_) (fun e => ?_)⟩
  · have e := vstr_eq e
    refine rows3 (K := K) (d11 := eF c) (d12 := eF 0) (d13 := eF s) (d21 := eF 0) (d22 := eF 1) (d23 := eF 0) (d31 := eF (0 - s)) (d32 := eF 0) (d33 := eF c) (fun H' S te d hh R q => ?_) (fun H' v S hv => k H' v (S1.trans S) (by unfold rotT; rw [if_neg e1, if_pos e]; exact hv))
    rcases hh with ⟨rfl, rfl⟩ | ⟨rfl, rfl⟩ | ⟨rfl, rfl⟩ | ⟨rfl, rfl⟩ | ⟨rfl, rfl⟩ | ⟨rfl, rfl⟩ | ⟨rfl, rfl⟩ | ⟨rfl, rfl⟩ | ⟨rfl, rfl⟩ <;>
      first | exact q _ (n1 _) | exact q _ (n0 _) | exact ⟨_, rfl, q _ (h1.same S)⟩ | exact ⟨_, rfl, q _ (h2.same S)⟩ | exact ⟨_, rfl, q _ (zb.same S)⟩
  have e2 := vstr_ne e
  dsimp only [tNext, tRet]
  refine rows3 (K := K) (d11 := eF c) (d12 := eF (0 - s)) (d13 := eF 0) (d21 := eF s) (d22 := eF c) (d23 := eF 0) (d31 := eF 0) (d32 := eF 0) (d33 := eF 1) (fun H' S te d hh R q => ?_) (fun H' v S hv => k H' v (S1.trans S) (by unfold rotT; rw [if_neg e1, if_neg e2]; exact hv))
  rcases hh with ⟨rfl, rfl⟩ | ⟨rfl, rfl⟩ | ⟨rfl, rfl⟩ | ⟨rfl, rfl⟩ | ⟨rfl, rfl⟩ | ⟨rfl, rfl⟩ | ⟨rfl, rfl⟩ | ⟨rfl, rfl⟩ | ⟨rfl, rfl⟩ <;>
    first | exact q _ (n1 _) | exact q _ (n0 _) | exact ⟨_, rfl, q _ (h1.same S)⟩ | exact ⟨_, rfl, q _ (h2.same S)⟩ | exact ⟨_, rfl, q _ (zb.same S)⟩
def spD_mul (K : PySem.W.Frag) : Sp := fun vs H Q _ => ∃ v1 v2 s t, vs = [v1, v2] ∧ DT K H v1 (eT s) ∧ DT K H v2 (eT t) ∧ s.B 1000 ∧ t.B 1000 ∧ ∀ H' v, Same H H' → DT K H' v (eT (s.mul t)) → Q v H'
theorem tr_B {n : Nat} {t : T3} (h : t.B n) : t.tr.B n := by
  obtain ⟨⟨a, b, c⟩, ⟨d, e, f⟩, ⟨g, i, j⟩⟩ := h
  exact ⟨⟨a, d, g⟩, ⟨b, e, i⟩, ⟨c, f, j⟩⟩
theorem okD_one_behind_other (T : Tx K mg w) : FnOk P w K mg base CX0 4 T.f_one_behind_other T.d_one_behind_other ["outer", "inner"] (spD_mul K) := by
  have G_columns_of := okD_columns_of (P := P) (w := w) (base := base) T
  have G_turned := okD_turned (P := P) (w := w) (base := base) T
  refine T.F_one_behind_other.ok sc_one_behind_other (fun vs H Q E h => ?_) (fun cdv A outer s H vs Q E hr h => ?_)
  · obtain ⟨_, _, _, _, rfl, _⟩ := h
    rfl
  obtain ⟨v1, v2, s, t, rfl, h1, h2, ⟨b1, b2, b3⟩, bt, k⟩ := h
  refine ⟨_, (pss_cons (ps_set (i := 2) sc_one_behind_other.nd rfl (Or.inr rfl) (pe_call G_columns_of (hr.mono (by first | decide | omega)) (by rfl) T.g_columns_of T.F_columns_of.kp T.b_columns_of .nil pass0 (pa_cons (pv 1) pa_nil)))
      (pss_one (ps_ret (pe_callTy call_tuple_of (by rfl) T.m_tuple (by decide +kernel) (pa_cons (pe_lc (own := [("row", 3)]) (g := gName 3) (by rfl) sc_one_behind_other.nd (pi_tup (pv 0)) (blkOk_by (own := [("row", 3)]) (N := nm_one_behind_other) (sc := defScope s_one_behind_other) (by decide +kernel)) (fun _ _ _ _ _ => (pg_name (i := 3) sc_one_behind_other.nd rfl (Or.inl rfl))) (fun _ _ _ _ _ => pts_nil) (fun _ _ _ _ _ => (pe_call G_turned (hr.mono (by first | decide | omega)) (by rfl) T.g_turned T.F_turned.kp T.b_turned .nil pass0 (pa_cons (pv 2) (pa_cons (pv 3) pa_nil))))) pa_nil))))), ?_⟩
  refine ⟨_, rfl, _, _, rfl, h2, fun H1 vc S1 zc => ?_⟩
  have h1 := h1.same S1
  obtain ⟨a, xs, rfl, ha, hs⟩ := DT.inv h1
  refine ⟨_, rfl, a, rfl, ⟨_, ha.sq⟩, fun D nD => ?_⟩
  have hs : DTs K H1 xs ([s.a, s.b, s.c].map eP) := hs
  refine lc_mapT ([s.a, s.b, s.c].map fun r => eP (t.tr.app r)) nD ha.sq (hs.len.symm) (by show 3 ≤ 1000; decide) (fun i x H2 d hx hd S R q => ?_) (fun H2 ys S hD hys => ?_)
  · obtain ⟨d', e', hx'⟩ := hs.get' hx
    rw [List.getElem?_map] at hd e'
    cases er : [s.a, s.b, s.c][i]? with
    | none => rw [er] at hd; cases hd
    | some r =>
      rw [er] at hd e'
      cases hd
      cases e'
      have br : r.B 1000 := by
        have := List.mem_of_getElem? er
        simp only [List.mem_cons, List.not_mem_nil, or_false] at this
        rcases this with rfl | rfl | rfl <;> assumption
      exact ⟨rfl, _, rfl, _, rfl, _, _, _, _, rfl, zc.same S, hx'.same S, tr_B bt, br, fun H3 y S3 hy => q y H3 S3 hy⟩
  · exact ⟨D, ys, rfl, .inl ⟨SqL.of hD, fun l hl => k _ _ ((S1.trans S).trans (same_upd hl)) (dt_new hl hys)⟩⟩
end

/-! ### bodies laid out -/
inductive Form
  | box (lo hi : P3)
  | ball (m : P3) (r : Rat)
  | half (w : P3) (b : Rat)
  | two (word : Str) (i j : Nat)
  | slide (i : Nat) (w : P3)
  | turn (i : Nat) (ax : Str) (c s : Rat)
def eForm : Form → PyData
  | .box lo hi => .tuple [.str "box", eP lo, eP hi]
  | .ball m r => .tuple [.str "ball", eP m, eF r]
  | .half w b => .tuple [.str "half", eP w, eF b]
  | .two wd i j => .tuple [.str wd, .int (i : Int), .int (j : Int)]
  | .slide i w => .tuple [.str "slide", .int (i : Int), eP w]
  | .turn i ax c s => .tuple [.str "turn", .int (i : Int), .str ax, eF c, eF s]
structure Body where
  name : Str
  form : Form
def eBody (b : Body) : PyData := .tuple [.str b.name, eForm b.form]
structure Leaf where
  name : Str
  form : Form
  turn : T3
  slide : P3
def eLeaf (l : Leaf) : PyData := .tuple [.str l.name, eForm l.form, eT l.turn, eP l.slide]
structure Thing where
  i : Nat
  colour : Str
  mirror : Bool
  move : P3
def eThing (t : Thing) : PyData := .tuple [.int (t.i : Int), .str t.colour, .bool t.mirror, eP t.move]
def eScene (bs : List Body) (ts : List Thing) (la lo : PyData) : PyData := .tuple [.tuple (bs.map eBody), .tuple (ts.map eThing), la, lo]
def layL (bs : List Body) : Nat → Nat → T3 → P3 → List Leaf
  | 0, _, _, _ => []
  | f + 1, i, t, s => match bs[i]? with
    | none => []
    | some b => match b.form with
      | .slide j w => layL bs f j t ((t.app w).add s)
      | .turn j ax c sn => layL bs f j (t.mul (rotT ax c sn)) s
      | .two _ j k => layL bs f j t s ++ layL bs f k t s
      | fm => [⟨b.name, fm, t, s⟩]
def layN (bs : List Body) : Nat → Nat → Nat
  | 0, _ => 0
  | f + 1, i => match bs[i]? with
    | none => 0
    | some b => match b.form with
      | .slide j _ => layN bs f j
      | .turn j _ _ _ => layN bs f j
      | .two _ j k => layN bs f j + layN bs f k
      | _ => 1
def layS (bs : List Body) : Nat → Nat → Nat → List PyData
  | 0, _, _ => []
  | f + 1, i, n => match bs[i]? with
    | none => []
    | some b => match b.form with
      | .slide j _ => layS bs f j n
      | .turn j _ _ _ => layS bs f j n
      | .two wd j k => layS bs f j n ++ (layS bs f k (n + layN bs f j) ++ [.str wd])
      | _ => [.int (n : Int)]
def LayOk (bs : List Body) : Nat → Nat → T3 → P3 → Prop
  | 0, _, _, _ => False
  | f + 1, i, t, s => ∃ b, bs[i]? = some b ∧ match b.form with
      | .slide j w => t.B 1000 ∧ w.B 1000 ∧ (t.app w).B 4000 ∧ s.B 4000 ∧ LayOk bs f j t ((t.app w).add s)
      | .turn j ax c sn => Rb 4000 sn ∧ t.B 1000 ∧ (rotT ax c sn).B 1000 ∧ LayOk bs f j (t.mul (rotT ax c sn)) s
      | .two wd j k => (wd = "join" ∨ wd = "cut" ∨ wd = "meet") ∧ LayOk bs f j t s ∧ LayOk bs f k t s
      | _ => True
theorem layL_len (bs : List Body) : ∀ f i t s, (layL bs f i t s).length = layN bs f i
  | 0, _, _, _ => rfl
  | f + 1, i, t, s => by
    unfold layL layN
    cases bs[i]? with
    | none => rfl
    | some b =>
      obtain ⟨nm, fm⟩ := b
      cases fm with
      | two wd j k => show (layL bs f j t s ++ layL bs f k t s).length = _; rw [List.length_append, layL_len, layL_len]
      | slide j w => exact layL_len bs f j _ _
      | turn j ax c sn => exact layL_len bs f j _ _
      | box _ _ => rfl
      | ball _ _ => rfl
      | half _ _ => rfl
section
variable {P : Program} {w : World} {K : PySem.W.Frag} {mg : Str → Option Value} {base : Heap}
/-- all but one address stands -/
def KB (L : Addr) (H H' : Hp) : Prop := ∀ a o, H a = some o → a ≠ L → H' a = some o
theorem KB.refl {L : Addr} {H : Hp} : KB L H H := fun _ _ h _ => h
theorem KB.trans {L : Addr} {H H1 H2 : Hp} (a : KB L H H1) (b : KB L H1 H2) : KB L H H2 := fun x o h n => b x o (a x o h n) n
theorem KB.of {L : Addr} {H H' : Hp} (e : Same H H') : KB L H H' := fun a o h _ => e a o h
theorem KB.tk {L : Addr} {H H' : Hp} {ls : List V} (e : KB L H H') (hL : H L = some (.lst ls)) : TK H H' := fun a xs h => e a _ h (ne_of h hL fun z => by cases z)
def sp_lay (K : PySem.W.Frag) (n : Nat) : Sp := fun vs H Q _ => ∃ vb vt vp L i bs t s ls, vs = [vb, .int ((i : Nat) : Int), vt, vp, .ref L] ∧ DT K H vb (.tuple (bs.map eBody)) ∧ DT K H vt (eT t) ∧ DT K H vp (eP s) ∧ H L = some (.lst ls) ∧ LayOk bs n i t s ∧ ls.length + layN bs n i ≤ 1000 ∧ (layS bs n i ls.length).length ≤ 1000 ∧
  ∀ H' p vls us, KB L H H' → H' L = some (.lst (ls ++ vls)) → DTs K H' vls ((layL bs n i t s).map eLeaf) → H p = none → H' p = some (.lst us) → DTs K H' us (layS bs n i ls.length) → Q (.ref p) H'
theorem get_body {H : Hp} {vb : V} {bs : List Body} {i : Nat} {b : Body} {Q : VK} (h : DT K H vb (.tuple (bs.map eBody))) (e : bs[i]? = some b) (q : ∀ y, DT K H y (eBody b) → Q y H) : rIxT K vb (.int ((i : Nat) : Int)) H Q :=
  rx_dt h (by rw [List.getElem?_map, e]; rfl) q
theorem body_inv {H : Hp} {y : V} {b : Body} (h : DT K H y (eBody b)) : ∃ a vf, y = .ref a ∧ SqT K H a [.str b.name, vf] ∧ DT K H vf (eForm b.form) := by
  obtain ⟨a, xs, rfl, ha, hs⟩ := DT.inv h
  cases hs with
  | cons h1 hs => cases hs with
    | cons h2 hs => cases hs; rw [h1.str_inv] at ha; exact ⟨a, _, rfl, ha.sq, h2⟩
theorem tw_lay (T : Tx K mg w) : ∀ n, FnOk P w K mg base CX0 (n + 6) T.f_lay T.d_lay ["bodies", "number", "turn", "slide", "leaves"] (sp_lay K n)
  | 0 => ⟨fun vs H Q E h => by
      obtain ⟨_, _, _, _, _, _, _, _, _, rfl, _⟩ := h
      rfl, fun A outer s H args us vs Q E _ _ _ _ h => by
      obtain ⟨_, _, _, _, _, _, _, _, _, rfl, _, _, _, _, h, _⟩ := h
      exact h.elim⟩
  | n + 1 => by
    have G_lay := tw_lay T n
    have G_together := okD_together (P := P) (w := w) (base := base) T
    have G_turned := okD_turned (P := P) (w := w) (base := base) T
    have G_turn_about := okD_turn_about (P := P) (w := w) (base := base) T
    have G_one_behind_other := okD_one_behind_other (P := P) (w := w) (base := base) T
    refine T.F_lay.ok sc_lay (fun vs H Q E h => ?_) (fun cdv A outer s H vs Q E hr h => ?_)
    · obtain ⟨_, _, _, _, _, _, _, _, _, rfl, _⟩ := h
      rfl
    obtain ⟨vb, vt, vp, L, i, bs, t, s, ls, rfl, hb, ht, hp, hL, ⟨b, eb, ok⟩, hN, hS, k⟩ := h
    refine ⟨_, (pss_cons (ps_asg (pe_ix ix_tup (pv 0) (pv 1) (fun _ _ => rfl)) (pg_tup (by rfl) (pgs_cons (pg_name (i := 5) sc_lay.nd rfl (Or.inl rfl)) (pgs_cons (pg_name (i := 6) sc_lay.nd rfl (Or.inl rfl)) pgs_nil))))
      (pss_cons (ps_set (i := 7) sc_lay.nd rfl (Or.inl rfl) (pe_ix ix_tup (pv 6) pe_int (fun _ _ => rfl)))
      (pss_cons (ps_if (pt_cmpR op_eq (pv 7) pe_str (nomark _)) (pss_one (ps_ret (pe_call G_lay (hr.mono (by first | decide | omega)) (by rfl) T.g_lay T.F_lay.kp T.b_lay .nil pass0 (pa_cons (pv 0) (pa_cons (pe_ix ix_tup (pv 6) pe_int (fun _ _ => rfl)) (pa_cons (pv 2) (pa_cons (pe_call G_together (hr.mono (by first | decide | omega)) (by rfl) T.g_together T.F_together.kp T.b_together .nil pass0 (pa_cons (pe_call G_turned (hr.mono (by first | decide | omega)) (by rfl) T.g_turned T.F_turned.kp T.b_turned .nil pass0 (pa_cons (pv 2) (pa_cons (pe_ix ix_tup (pv 6) pe_int (fun _ _ => rfl)) pa_nil))) (pa_cons (pv 3) pa_nil))) (pa_cons (pv 4) pa_nil)))))))) pss_nil)
      (pss_cons (ps_if (pt_cmpR op_eq (pv 7) pe_str (nomark _)) (pss_one (ps_ret (pe_call G_lay (hr.mono (by first | decide | omega)) (by rfl) T.g_lay T.F_lay.kp T.b_lay .nil pass0 (pa_cons (pv 0) (pa_cons (pe_ix ix_tup (pv 6) pe_int (fun _ _ => rfl)) (pa_cons (pe_call G_one_behind_other (hr.mono (by first | decide | omega)) (by rfl) T.g_one_behind_other T.F_one_behind_other.kp T.b_one_behind_other .nil pass0 (pa_cons (pv 2) (pa_cons (pe_call G_turn_about (hr.mono (by first | decide | omega)) (by rfl) T.g_turn_about T.F_turn_about.kp T.b_turn_about .nil pass0 (pa_cons (pe_ix ix_tup (pv 6) pe_int (fun _ _ => rfl)) (pa_cons (pe_ix ix_tup (pv 6) pe_int (fun _ _ => rfl)) (pa_cons (pe_ix ix_tup (pv 6) pe_int (fun _ _ => rfl)) pa_nil)))) pa_nil))) (pa_cons (pv 3) (pa_cons (pv 4) pa_nil)))))))) pss_nil)
      (pss_cons (ps_if (pt_truth (pe_ix ix_kdict (pe_glob (v := .ref T.a_SPOKEN_OF) (by rfl) T.g_SPOKEN_OF rfl) (pv 7) (fun _ _ => rfl)) (by intro _; rfl)) (pss_cons (ps_set (i := 8) sc_lay.nd rfl (Or.inl rfl) (pe_call G_lay (hr.mono (by first | decide | omega)) (by rfl) T.g_lay T.F_lay.kp T.b_lay .nil pass0 (pa_cons (pv 0) (pa_cons (pe_ix ix_tup (pv 6) pe_int (fun _ _ => rfl)) (pa_cons (pv 2) (pa_cons (pv 3) (pa_cons (pv 4) pa_nil)))))))
      (pss_cons (ps_set (i := 9) sc_lay.nd rfl (Or.inl rfl) (pe_call G_lay (hr.mono (by first | decide | omega)) (by rfl) T.g_lay T.F_lay.kp T.b_lay .nil pass0 (pa_cons (pv 0) (pa_cons (pe_ix ix_tup (pv 6) pe_int (fun _ _ => rfl)) (pa_cons (pv 2) (pa_cons (pv 3) (pa_cons (pv 4) pa_nil)))))))
      (pss_one (ps_ret (pe_lst (StX.pa_star (pv 8) (StX.pa_star (pv 9) (pa_cons (pv 7) pa_nil)))))))) pss_nil)
      (pss_cons (ps_expr (pe_bm PySem.F.plainAttrs_list PySem.F.slot_list_append PySem.F.type_list_append mt_append (pv 4) (pa_cons (pe_tup (pa_cons (pv 5) (pa_cons (pv 6) (pa_cons (pv 2) (pa_cons (pv 3) pa_nil))))) pa_nil)))
      (pss_one (ps_ret (pe_lst (pa_cons (pe_op op_sub (pe_callB call_len_seq (by rfl) T.m_len (by decide +kernel) (pa_cons (pv 4) pa_nil)) pe_int) pa_nil)))))))))), ?_⟩
    rw [show L2.start nm_lay [vb, .int ((i : Nat) : Int), vt, vp, .ref L] = [some vb, some (.int ((i : Nat) : Int)), some vt, some vp, some (.ref L), none, none, none, none, none] from rfl]
    refine ⟨_, rfl, _, rfl, get_body hb eb fun y hy => ?_⟩
    obtain ⟨ay, vf, rfl, hay, hf⟩ := body_inv hy
    refine ⟨ay, _, rfl, hay, rfl, _, _, rfl, _, _, rfl, rfl, ?_⟩
    dsimp only [gName, List.set_cons_succ, List.set_cons_zero]
    obtain ⟨nm, fm⟩ := b
    have wd : ∀ {x : Str} {ds : List PyData} {Q : VK}, DT K H vf (.tuple (.str x :: ds)) → Q (.str x) H → rIxT K vf (.int 0) H Q := fun h q => rx_dt (j := 0) h rfl fun y hy => by rw [hy.str_inv]; exact q
    cases fm with
    | slide j wv =>
      obtain ⟨b1, b2, b3, b4, ok⟩ := ok
      refine ⟨_, rfl, rd_c (wd hf ?_)⟩
      dsimp only [gName, List.set_cons_succ, List.set_cons_zero]
      refine ⟨_, rfl, rfl, _, rfl, iteT ?_⟩
      refine ⟨_, rfl, ⟨_, rfl, rd_c (rx_dt (j := 1) hf rfl fun y hy => ?_)⟩⟩
      cases hy.int_inv
      refine ⟨_, rfl, _, rfl, _, rfl, rd_c (rx_dt (j := 2) hf rfl fun y hy => ?_)⟩
      refine ⟨_, _, _, _, rfl, ht, hy, b1, b2, fun H1 w1 S1 z1 => ?_⟩
      refine ⟨_, rfl, _, _, _, _, rfl, z1, hp.same S1, b3, b4, fun H2 w2 S2 z2 => ?_⟩
      have S12 := S1.trans S2
      exact ⟨_, rfl, _, _, _, L, j, bs, t, _, ls, rfl, hb.same S12, ht.same S12, z2, S12 _ _ hL, ok, by unfold layN at hN; rw [eb] at hN; exact hN, by unfold layS at hS; rw [eb] at hS; exact hS, fun H3 p vls us kb hL3 hl hp3 hpp hu => k H3 p vls us ((KB.of S12).trans kb) hL3 (by unfold layL; rw [eb]; exact hl) (S12.free hp3) hpp (by unfold layS; rw [eb]; exact hu)⟩
    | turn j ax c sn =>
      obtain ⟨b1, b2, b3, ok⟩ := ok
      refine ⟨_, rfl, rd_c (wd hf ?_)⟩
      dsimp only [gName, List.set_cons_succ, List.set_cons_zero]
      refine ⟨_, rfl, rfl, _, rfl, iteF ?_⟩
      refine ⟨_, rfl, rfl, _, rfl, iteT ?_⟩
      refine ⟨_, rfl, ⟨_, rfl, rd_c (rx_dt (j := 1) hf rfl fun y hy => ?_)⟩⟩
      cases hy.int_inv
      refine ⟨_, rfl, _, rfl, rd_c (rx_dt (j := 2) hf rfl fun y hy => ?_)⟩
      cases hy.str_inv
      refine ⟨_, rfl, rd_c (rx_dt (j := 3) hf rfl fun y3 hy3 => ?_)⟩
      refine ⟨_, rfl, rd_c (rx_dt (j := 4) hf rfl fun y4 hy4 => ?_)⟩
      refine ⟨_, _, _, _, _, rfl, hy3, hy4, b1, fun H1 w1 S1 z1 => ?_⟩
      refine ⟨_, _, _, _, rfl, ht.same S1, z1, b2, b3, fun H2 w2 S2 z2 => ?_⟩
      have S12 := S1.trans S2
      exact ⟨_, rfl, _, rfl, _, _, _, L, j, bs, _, _, ls, rfl, hb.same S12, z2, hp.same S12, S12 _ _ hL, ok, by unfold layN at hN; rw [eb] at hN; exact hN, by unfold layS at hS; rw [eb] at hS; exact hS, fun H3 p vls us kb hL3 hl hp3 hpp hu => k H3 p vls us ((KB.of S12).trans kb) hL3 (by unfold layL; rw [eb]; exact hl) (S12.free hp3) hpp (by unfold layS; rw [eb]; exact hu)⟩
    | two wv j l =>
      obtain ⟨hw, ok1, ok2⟩ := ok
      have hN : ls.length + (layN bs n j + layN bs n l) ≤ 1000 := by unfold layN at hN; rw [eb] at hN; exact hN
      have hS : (layS bs n j ls.length ++ (layS bs n l (ls.length + layN bs n j) ++ [PyData.str wv])).length ≤ 1000 := by unfold layS at hS; rw [eb] at hS; exact hS
      rw [List.length_append, List.length_append] at hS
      have hk : KDct K w T.a_SPOKEN_OF wv (.int 2) := by
        rcases hw with rfl | rfl | rfl
        · exact T.k_SPOKEN_OF_join
        · exact T.k_SPOKEN_OF_cut
        · exact T.k_SPOKEN_OF_meet
      have n1 : ¬ wv = "slide" := by rcases hw with rfl | rfl | rfl <;> decide +kernel
      have n2 : ¬ wv = "turn" := by rcases hw with rfl | rfl | rfl <;> decide +kernel
      refine ⟨_, rfl, rd_c (wd hf ?_)⟩
      dsimp only [gName, List.set_cons_succ, List.set_cons_zero]
      refine ⟨_, rfl, rfl, _, rfl, ite_no (fun z => n1 (vstr_eq z)) ?_⟩
      refine ⟨_, rfl, rfl, _, rfl, ite_no (fun z => n2 (vstr_eq z)) ?_⟩
      refine ⟨.str wv, rfl, T.a_SPOKEN_OF, wv, .int 2, rfl, rfl, hk, (2 : Int) != 0, rfl, iteT ?_⟩
      refine ⟨_, rfl, ⟨_, rfl, rd_c (rx_dt (j := 1) hf rfl fun y hy => ?_)⟩⟩
      cases hy.int_inv
      refine ⟨_, rfl, _, rfl, _, rfl, _, _, _, L, j, bs, t, s, ls, rfl, hb, ht, hp, hL, ok1, by omega, by omega, fun H1 p1 v1 u1 kb1 hL1 hl1 hp1 hpp1 hu1 => ?_⟩
      dsimp only [gName, List.set_cons_succ, List.set_cons_zero]
      have T1 := kb1.tk hL
      have e1 : (ls ++ v1).length = ls.length + layN bs n j := by rw [List.length_append, hl1.len, List.length_map, layL_len]
      refine ⟨_, rfl, ⟨_, rfl, rd_c (rx_dt (j := 2) (hf.tk T1) rfl fun y hy => ?_)⟩⟩
      cases hy.int_inv
      refine ⟨_, rfl, _, rfl, _, rfl, _, _, _, L, l, bs, t, s, ls ++ v1, rfl, hb.tk T1, ht.tk T1, hp.tk T1, hL1, ok2, by omega, by rw [e1]; omega, fun H2 p2 v2 u2 kb2 hL2 hl2 hp2 hpp2 hu2 => ?_⟩
      dsimp only [gName, List.set_cons_succ, List.set_cons_zero]
      have T2 := kb2.tk hL1
      have np1 : p1 ≠ L := fun z => by rw [z, hL] at hp1; cases hp1
      have hpp1' := kb2 p1 _ hpp1 np1
      rw [e1] at hu2
      have len1 := hu1.len
      have len2 := hu2.len
      refine ⟨_, rfl, p1, u1, rfl, .inr (SqL.of hpp1'), _, rfl, p2, u2, rfl, .inr (SqL.of hpp2), _, rfl, ?_⟩
      refine ⟨sz_n (by rw [List.length_append, List.length_append, len1, len2]; exact hS), fun r hr' => ?_⟩
      have nrL : r ≠ L := fun z => by rw [z, hL2] at hr'; cases hr'
      have hr1 : H r = none := by
        cases e : H r with
        | none => rfl
        | some o => have := (kb1.trans kb2) r o e nrL; rw [this] at hr'; cases hr'
      have S3 := same_upd hr' (o := .lst (u1 ++ (u2 ++ [.str wv])))
      refine k _ r (v1 ++ v2) (u1 ++ (u2 ++ [.str wv])) ((kb1.trans kb2).trans (KB.of S3)) ?_ ?_ hr1 upd_same ?_
      · rw [show ls ++ (v1 ++ v2) = ls ++ v1 ++ v2 from (List.append_assoc _ _ _).symm]; exact S3 _ _ hL2
      · unfold layL; rw [eb]
        show DTs K _ (v1 ++ v2) ((layL bs n j t s ++ layL bs n l t s).map eLeaf)
        rw [List.map_append]
        exact ((hl1.tk T2).tk (Same.tk S3)).append (hl2.tk (Same.tk S3))
      · unfold layS; rw [eb]
        exact ((hu1.tk T2).tk (Same.tk S3)).append ((hu2.tk (Same.tk S3)).append (.cons (.str _) .nil))
    | box lo hi =>
      clear ok
      refine ⟨_, rfl, rd_c (wd hf ?_)⟩
      dsimp only [gName, List.set_cons_succ, List.set_cons_zero]
      refine ⟨_, rfl, rfl, _, rfl, iteF ?_⟩
      refine ⟨_, rfl, rfl, _, rfl, iteF ?_⟩
      refine ⟨.str "box", rfl, T.a_SPOKEN_OF, "box", .int 0, rfl, rfl, T.k_SPOKEN_OF_box, (0 : Int) != 0, rfl, iteF ?_⟩
      have eN : layN bs (n + 1) i = 1 := by unfold layN; rw [eb]
      refine ⟨_, rfl, .inl ⟨rfl, _, SqL.of hL⟩, _, rfl, _, rfl, _, rfl, _, rfl, sz_n (by decide : 4 ≤ 1000), fun q hq => ?_⟩
      have hL1 : upd H q (.tup [.str nm, vf, vt, vp]) L = some (.lst ls) := same_upd hq _ _ hL
      refine ⟨L, _, _, rfl, rfl, hL1, small1000 (by omega), ?_⟩
      have S1 := same_upd hq (o := .tup [.str nm, vf, vt, vp])
      have zl : DT K (upd H q (.tup [.str nm, vf, vt, vp])) (.ref q) (eLeaf ⟨nm, .box lo hi, t, s⟩) := dt_new hq (.cons (.str _) (.cons hf (.cons ht (.cons hp .nil))))
      generalize upd H q (.tup [.str nm, vf, vt, vp]) = H1 at hL1 S1 zl ⊢
      refine ⟨_, rfl, L, _, rfl, .inl (SqL.of upd_same), _, _, rfl, rfl, sz_n (by decide : 1 ≤ 1000), fun r hr' => ?_⟩
      have nr : r ≠ L := fun z => by rw [z, upd_same] at hr'; cases hr'
      have hr1 : H1 r = none := by rw [upd_ne nr] at hr'; exact hr'
      have tk : TK H1 (upd (upd H1 L (.lst (ls ++ [.ref q]))) r (.lst [.int (((ls ++ [V.ref q]).length : Int) - 1)])) := (tk_lst hL1).trans (tk_new hr')
      refine k _ r [.ref q] [.int (((ls ++ [V.ref q]).length : Int) - 1)] (fun a o ho na => ?_) ?_ ?_ (S1.free hr1) upd_same ?_
      · rw [upd_ne (ne_of_none (S1 _ _ ho) hr1), upd_ne na]
        exact S1 _ _ ho
      · rw [upd_ne nr.symm, upd_same]
      · unfold layL; rw [eb]
        exact .cons (zl.tk tk) .nil
      · unfold layS; rw [eb]
        rw [show ((ls ++ [V.ref q]).length : Int) - 1 = (ls.length : Int) by rw [List.length_append]; show ((ls.length + 1 : Nat) : Int) - 1 = _; omega]
        exact .cons (.int _) .nil
    | ball m r0 =>
      clear ok
      refine ⟨_, rfl, rd_c (wd hf ?_)⟩
      dsimp only [gName, List.set_cons_succ, List.set_cons_zero]
      refine ⟨_, rfl, rfl, _, rfl, iteF ?_⟩
      refine ⟨_, rfl, rfl, _, rfl, iteF ?_⟩
      refine ⟨.str "ball", rfl, T.a_SPOKEN_OF, "ball", .int 0, rfl, rfl, T.k_SPOKEN_OF_ball, (0 : Int) != 0, rfl, iteF ?_⟩
      have eN : layN bs (n + 1) i = 1 := by unfold layN; rw [eb]
      refine ⟨_, rfl, .inl ⟨rfl, _, SqL.of hL⟩, _, rfl, _, rfl, _, rfl, _, rfl, sz_n (by decide : 4 ≤ 1000), fun q hq => ?_⟩
      have hL1 : upd H q (.tup [.str nm, vf, vt, vp]) L = some (.lst ls) := same_upd hq _ _ hL
      refine ⟨L, _, _, rfl, rfl, hL1, small1000 (by omega), ?_⟩
      have S1 := same_upd hq (o := .tup [.str nm, vf, vt, vp])
      have zl : DT K (upd H q (.tup [.str nm, vf, vt, vp])) (.ref q) (eLeaf ⟨nm, .ball m r0, t, s⟩) := dt_new hq (.cons (.str _) (.cons hf (.cons ht (.cons hp .nil))))
      generalize upd H q (.tup [.str nm, vf, vt, vp]) = H1 at hL1 S1 zl ⊢
      refine ⟨_, rfl, L, _, rfl, .inl (SqL.of upd_same), _, _, rfl, rfl, sz_n (by decide : 1 ≤ 1000), fun r hr' => ?_⟩
      have nr : r ≠ L := fun z => by rw [z, upd_same] at hr'; cases hr'
      have hr1 : H1 r = none := by rw [upd_ne nr] at hr'; exact hr'
      have tk : TK H1 (upd (upd H1 L (.lst (ls ++ [.ref q]))) r (.lst [.int (((ls ++ [V.ref q]).length : Int) - 1)])) := (tk_lst hL1).trans (tk_new hr')
      refine k _ r [.ref q] [.int (((ls ++ [V.ref q]).length : Int) - 1)] (fun a o ho na => ?_) ?_ ?_ (S1.free hr1) upd_same ?_
      · rw [upd_ne (ne_of_none (S1 _ _ ho) hr1), upd_ne na]
        exact S1 _ _ ho
      · rw [upd_ne nr.symm, upd_same]
      · unfold layL; rw [eb]
        exact .cons (zl.tk tk) .nil
      · unfold layS; rw [eb]
        rw [show ((ls ++ [V.ref q]).length : Int) - 1 = (ls.length : Int) by rw [List.length_append]; show ((ls.length + 1 : Nat) : Int) - 1 = _; omega]
        exact .cons (.int _) .nil
    | half m r0 =>
      clear ok
      refine ⟨_, rfl, rd_c (wd hf ?_)⟩
      dsimp only [gName, List.set_cons_succ, List.set_cons_zero]
      refine ⟨_, rfl, rfl, _, rfl, iteF ?_⟩
      refine ⟨_, rfl, rfl, _, rfl, iteF ?_⟩
      refine ⟨.str "half", rfl, T.a_SPOKEN_OF, "half", .int 0, rfl, rfl, T.k_SPOKEN_OF_half, (0 : Int) != 0, rfl, iteF ?_⟩
      have eN : layN bs (n + 1) i = 1 := by unfold layN; rw [eb]
      refine ⟨_, rfl, .inl ⟨rfl, _, SqL.of hL⟩, _, rfl, _, rfl, _, rfl, _, rfl, sz_n (by decide : 4 ≤ 1000), fun q hq => ?_⟩
      have hL1 : upd H q (.tup [.str nm, vf, vt, vp]) L = some (.lst ls) := same_upd hq _ _ hL
      refine ⟨L, _, _, rfl, rfl, hL1, small1000 (by omega), ?_⟩
      have S1 := same_upd hq (o := .tup [.str nm, vf, vt, vp])
      have zl : DT K (upd H q (.tup [.str nm, vf, vt, vp])) (.ref q) (eLeaf ⟨nm, .half m r0, t, s⟩) := dt_new hq (.cons (.str _) (.cons hf (.cons ht (.cons hp .nil))))
      generalize upd H q (.tup [.str nm, vf, vt, vp]) = H1 at hL1 S1 zl ⊢
      refine ⟨_, rfl, L, _, rfl, .inl (SqL.of upd_same), _, _, rfl, rfl, sz_n (by decide : 1 ≤ 1000), fun r hr' => ?_⟩
      have nr : r ≠ L := fun z => by rw [z, upd_same] at hr'; cases hr'
      have hr1 : H1 r = none := by rw [upd_ne nr] at hr'; exact hr'
      have tk : TK H1 (upd (upd H1 L (.lst (ls ++ [.ref q]))) r (.lst [.int (((ls ++ [V.ref q]).length : Int) - 1)])) := (tk_lst hL1).trans (tk_new hr')
      refine k _ r [.ref q] [.int (((ls ++ [V.ref q]).length : Int) - 1)] (fun a o ho na => ?_) ?_ ?_ (S1.free hr1) upd_same ?_
      · rw [upd_ne (ne_of_none (S1 _ _ ho) hr1), upd_ne na]
        exact S1 _ _ ho
      · rw [upd_ne nr.symm, upd_same]
      · unfold layL; rw [eb]
        exact .cons (zl.tk tk) .nil
      · unfold layS; rw [eb]
        rw [show ((ls ++ [V.ref q]).length : Int) - 1 = (ls.length : Int) by rw [List.length_append]; show ((ls.length + 1 : Nat) : Int) - 1 = _; omega]
        exact .cons (.int _) .nil
def I3 : T3 := ⟨⟨1, 0, 0⟩, ⟨0, 1, 0⟩, ⟨0, 0, 1⟩⟩
def spD_name (K : PySem.W.Frag) : Sp := fun vs H Q _ => ∃ v1 v2 bs ts la lo th b, vs = [v1, v2] ∧ DT K H v1 (eScene bs ts la lo) ∧ DT K H v2 (eThing th) ∧ bs[th.i]? = some b ∧ Q (.str b.name) H
theorem okD_name_of (T : Tx K mg w) : FnOk P w K mg base CX0 1 T.f_name_of T.d_name_of ["scene", "thing"] (spD_name K) := by
  refine T.F_name_of.ok sc_name_of (fun vs H Q E h => ?_) (fun cdv A outer s H vs Q E hr h => ?_)
  · obtain ⟨_, _, _, _, _, _, _, _, rfl, _⟩ := h
    rfl
  obtain ⟨v1, v2, bs, ts, la, lo, th, b, rfl, h1, h2, eb, k⟩ := h
  refine ⟨_, (pss_one (ps_ret (pe_ix ix_tup (pe_ix ix_tup (pe_ix ix_tup (pv 0) pe_int (fun _ _ => rfl)) (pe_ix ix_tup (pv 1) pe_int (fun _ _ => rfl)) (fun _ _ => rfl)) pe_int (fun _ _ => rfl)))), ?_⟩
  refine ⟨_, rfl, rd_c (rx_dt (j := 0) h1 rfl fun y hy => ?_)⟩
  refine ⟨_, rfl, rd_c (rx_dt (j := 0) h2 rfl fun z hz => ?_)⟩
  cases hz.int_inv
  refine get_body hy eb fun u hu => ?_
  refine rd_c (rx_dt (j := 0) hu rfl fun n hn => ?_)
  cases hn.str_inv
  exact k
/-- what a thing is laid out to -/
def laidD (bs : List Body) (n : Nat) (th : Thing) (m : Rat) : List PyData := [.tuple ((layL bs n th.i I3 (th.move.scale m)).map eLeaf), .tuple (layS bs n th.i 0)]
def LaidOk (bs : List Body) (n : Nat) (th : Thing) (m : Rat) : Prop := LayOk bs n th.i I3 (th.move.scale m) ∧ layN bs n th.i ≤ 1000 ∧ (layS bs n th.i 0).length ≤ 1000 ∧ th.move.B 4000 ∧ Rb 4000 m
def spD_lthing (K : PySem.W.Frag) (n : Nat) : Sp := fun vs H Q _ => ∃ v1 v2 v3 bs ts la lo th b m, vs = [v1, v2, v3] ∧ DT K H v1 (eScene bs ts la lo) ∧ DT K H v2 (eThing th) ∧ DT K H v3 (eF m) ∧ bs[th.i]? = some b ∧ LaidOk bs n th m ∧
  ∀ H' v, Same H H' → DT K H' v (.tuple (.str b.name :: laidD bs n th m)) → Q v H'
theorem okD_laid_thing (T : Tx K mg w) : FnOk P w K mg base CX0 19 T.f_laid_thing T.d_laid_thing ["scene", "thing", "moment"] (spD_lthing K 12) := by
  have G_lay := tw_lay (P := P) (w := w) (base := base) T 12
  have G_stretched := okD_stretched (P := P) (w := w) (base := base) T
  have G_name_of := okD_name_of (P := P) (w := w) (base := base) T
  refine T.F_laid_thing.ok sc_laid_thing (fun vs H Q E h => ?_) (fun cdv A outer s H vs Q E hr h => ?_)
  · obtain ⟨_, _, _, _, _, _, _, _, _, _, rfl, _⟩ := h
    rfl
  obtain ⟨v1, v2, v3, bs, ts, la, lo, th, b, m, rfl, h1, h2, h3, eb, ⟨ok, hN, hS, bm, bk⟩, k⟩ := h
  refine ⟨_, (pss_cons (ps_set (i := 3) sc_laid_thing.nd rfl (Or.inl rfl) (pe_lst pa_nil))
      (pss_cons (ps_set (i := 4) sc_laid_thing.nd rfl (Or.inl rfl) (pe_call G_lay (hr.mono (by first | decide | omega)) (by rfl) T.g_lay T.F_lay.kp T.b_lay .nil pass0 (pa_cons (pe_ix ix_tup (pv 0) pe_int (fun _ _ => rfl)) (pa_cons (pe_ix ix_tup (pv 1) pe_int (fun _ _ => rfl)) (pa_cons (pe_glob (v := .ref T.a_UNTURNED) (by rfl) T.g_UNTURNED rfl) (pa_cons (pe_call G_stretched (hr.mono (by first | decide | omega)) (by rfl) T.g_stretched T.F_stretched.kp T.b_stretched .nil pass0 (pa_cons (pe_ix ix_tup (pv 1) pe_int (fun _ _ => rfl)) (pa_cons (pv 2) pa_nil))) (pa_cons (pv 3) pa_nil)))))))
      (pss_one (ps_ret (pe_tup (pa_cons (pe_call G_name_of (hr.mono (by first | decide | omega)) (by rfl) T.g_name_of T.F_name_of.kp T.b_name_of .nil pass0 (pa_cons (pv 0) (pa_cons (pv 1) pa_nil))) (pa_cons (pe_callTy call_tuple_of (by rfl) T.m_tuple (by decide +kernel) (pa_cons (pv 3) pa_nil)) (pa_cons (pe_callTy call_tuple_of (by rfl) T.m_tuple (by decide +kernel) (pa_cons (pv 4) pa_nil)) pa_nil)))))))), ?_⟩
  rw [show L2.start nm_laid_thing [v1, v2, v3] = [some v1, some v2, some v3, none, none] from rfl]
  refine ⟨sz_n (by decide : 0 ≤ 1000), fun L nL => ?_⟩
  dsimp only [gName, List.set_cons_succ, List.set_cons_zero]
  have S1 := same_upd nL (o := .lst [])
  have hL : upd H L (.lst []) L = some (.lst []) := upd_same
  generalize upd H L (.lst []) = H1 at S1 hL ⊢
  refine ⟨_, rfl, rd_c (rx_dt (j := 0) (h1.same S1) rfl fun y hy => ?_)⟩
  refine ⟨_, rfl, rd_c (rx_dt (j := 0) (h2.same S1) rfl fun z hz => ?_)⟩
  cases hz.int_inv
  refine rd_c ⟨_, rfl, rd_c (rx_dt (j := 3) (h2.same S1) rfl fun u hu => ?_)⟩
  refine ⟨_, rfl, _, _, _, _, rfl, hu, h3.same S1, bm, bk, fun H2 w2 S2 z2 => ?_⟩
  have S12 := S1.trans S2
  refine ⟨_, rfl, _, _, _, L, th.i, bs, I3, _, [], rfl, hy.same S2, (T.k_UNTURNED H2 : DT K H2 _ (eT I3)), z2, S2 _ _ hL, ok, by simpa using hN, hS, fun H3 p vls us kb hL3 hl hp3 hpp hu => ?_⟩
  dsimp only [gName, List.set_cons_succ, List.set_cons_zero]
  have S3 : Same H H3 := fun a o ho => kb a o (S12 _ _ ho) (ne_of_none ho nL)
  refine ⟨_, rfl, _, rfl, _, _, _, _, _, _, _, _, rfl, h1.same S3, h2.same S3, eb, ?_⟩
  refine ⟨_, rfl, L, _, rfl, .inl ⟨SqL.of hL3, fun q hq => ?_⟩⟩
  have S4 := same_upd hq (o := .tup ([] ++ vls))
  refine ⟨_, rfl, p, us, rfl, .inl ⟨SqL.of (S4 _ _ hpp), fun r hr' => ?_⟩⟩
  have c1 : DT K (upd H3 q (.tup ([] ++ vls))) (.ref q) (.tuple ((layL bs 12 th.i I3 (th.move.scale m)).map eLeaf)) := dt_new hq hl
  have c2 := dt_new hr' (hu.tk (Same.tk S4))
  have S5 := same_upd hr' (o := .tup us)
  generalize upd (upd H3 q (.tup ([] ++ vls))) r (.tup us) = H5 at c2 S5 ⊢
  exact ⟨sz_n (by decide : 3 ≤ 1000), fun o ho => k _ _ (((S3.trans S4).trans S5).trans (same_upd ho)) (dt3 ho (.str _) (c1.same S5) c2)⟩
/-- the first thing of a name -/
def named (bs : List Body) (nm : Str) (th : Thing) : Bool := match bs[th.i]? with
  | some b => decide (b.name = nm)
  | none => false
def spD_laid (K : PySem.W.Frag) (n : Nat) : Sp := fun vs H Q _ => ∃ v1 v3 nm bs ts la lo th rest m, vs = [v1, .str nm, v3] ∧ DT K H v1 (eScene bs ts la lo) ∧ DT K H v3 (eF m) ∧ (∀ t ∈ ts, t.i < bs.length) ∧ ts.length ≤ 1000 ∧ ts.filter (named bs nm) = th :: rest ∧ LaidOk bs n th m ∧
  ∀ H' v, Same H H' → DT K H' v (.tuple (laidD bs n th m)) → Q v H'
theorem okD_laid_out (T : Tx K mg w) : FnOk P w K mg base CX0 20 T.f_laid_out T.d_laid_out ["scene", "name", "moment"] (spD_laid K 12) := by
  have G_laid_thing := okD_laid_thing (P := P) (w := w) (base := base) T
  have G_name_of := okD_name_of (P := P) (w := w) (base := base) T
  refine T.F_laid_out.ok sc_laid_out (fun vs H Q E h => ?_) (fun cdv A outer s H vs Q E hr h => ?_)
  · obtain ⟨_, _, _, _, _, _, _, _, _, _, rfl, _⟩ := h
    rfl
  obtain ⟨v1, v3, nm, bs, ts, la, lo, th, rest, m, rfl, h1, h3, hi, hn, ef, ok, k⟩ := h
  refine ⟨_, (pss_cons (ps_setLc (i := 3) (own := [("thing", 4)]) (g := gName 4) (by rfl) sc_laid_out.nd rfl rfl (sw_true rfl rfl rfl (by decide +kernel)) (pi_tup (pe_ix ix_tup (pv 0) pe_int (fun _ _ => rfl))) (blkOk_by (own := [("thing", 4)]) (N := nm_laid_out) (sc := defScope s_laid_out) (by decide +kernel)) (fun _ _ _ _ _ => (pg_name (i := 4) sc_laid_out.nd rfl (Or.inl rfl))) (fun _ _ _ _ _ => (pts_one (pt_cmpR op_eq (pe_call G_name_of (hr.mono (by first | decide | omega)) (by rfl) T.g_name_of T.F_name_of.kp T.b_name_of .nil pass0 (pa_cons (pv 0) (pa_cons (pv 4) pa_nil))) (pv 1) (nomark _)))) (fun _ _ _ _ _ => (pv 4)))
      (pss_one (ps_ret (pe_slice sl_tup (pe_call G_laid_thing (hr.mono (by first | decide | omega)) (by rfl) T.g_laid_thing T.F_laid_thing.kp T.b_laid_thing .nil pass0 (pa_cons (pv 0) (pa_cons (pe_ix ix_list (pv 3) pe_int (fun _ _ => rfl)) (pa_cons (pv 2) pa_nil)))) (po_some pe_int) po_none)))), ?_⟩
  refine ⟨_, rfl, rd_c (rx_dt (j := 1) h1 rfl fun y hy => ?_)⟩
  obtain ⟨a, xs, rfl, ha, hs⟩ := DT.inv hy
  have hlen : xs.length = ts.length := by rw [hs.len, List.length_map]
  refine ⟨a, rfl, ⟨_, ha.sq⟩, fun D nD => ?_⟩
  refine lc_tup (K := K) (a := a) (xs := xs) (fun i H' => Same H H' ∧ ∃ ys, H' D = some (.lst ys) ∧ DTs K H' ys (((ts.take i).filter (named bs nm)).map eThing) ∧ ys.length ≤ i) ⟨same_upd nD, [], upd_same, .nil, Nat.le_refl _⟩ (fun i H' _ p => same_tup p.1 ha.sq) (fun i x H' hx p => ?_) (fun H' p => ?_)
  · obtain ⟨S, ys, hD, hys, hl⟩ := p
    have hil : i < ts.length := by rw [← hlen]; exact (List.getElem?_eq_some_iff.mp hx).1
    obtain ⟨d, hd, hx'⟩ := hs.get' hx
    rw [List.getElem?_map, List.getElem?_eq_getElem hil] at hd
    cases hd
    have hb := List.getElem?_eq_getElem (hi ts[i] (List.getElem_mem hil))
    have et : ts.take (i + 1) = ts.take i ++ [ts[i]] := List.take_succ_eq_append_getElem hil
    refine ⟨rfl, _, rfl, _, rfl, _, _, _, _, _, _, _, _, rfl, h1.same S, hx'.same S, hb, _, rfl, rfl, _, rfl, ?_⟩
    refine ite2 (fun e => ?_) (fun e => ?_)
    · have e := vstr_eq e
      have nb : named bs nm ts[i] = true := by unfold named; rw [hb]; exact decide_eq_true e
      refine ⟨_, rfl, ys, hD, small1000 (by omega), fun a o ho => ?_, _, upd_same, ?_, ?_⟩
      · rw [upd_ne (ne_of_none ho nD)]; exact S _ _ ho
      · rw [et, List.filter_append, List.map_append]
        refine (hys.tk (tk_lst hD)).append ?_
        rw [List.filter_cons_of_pos nb]
        exact .cons ((hx'.same S).tk (tk_lst hD)) .nil
      · rw [List.length_append]; exact Nat.add_le_add_right hl 1
    · have e := vstr_ne e
      have nb : ¬ named bs nm ts[i] = true := by unfold named; rw [hb]; exact fun z => e (of_decide_eq_true z)
      refine ⟨S, ys, hD, ?_, by omega⟩
      rw [et, List.filter_append, List.filter_cons_of_neg nb]
      show DTs K H' ys ((List.filter (named bs nm) (List.take i ts) ++ []).map eThing)
      rw [List.append_nil]
      exact hys
  · obtain ⟨S, ys, hD, hys, hl⟩ := p
    rw [hlen, List.take_length, ef] at hys
    cases hys with
    | cons hy0 hys =>
      have hin : th.i < bs.length := hi th (by
        have : th ∈ ts.filter (named bs nm) := by rw [ef]; exact List.mem_cons_self
        exact (List.mem_filter.mp this).1)
      have hb : bs[th.i]? = some bs[th.i] := List.getElem?_eq_getElem hin
      refine ⟨_, rfl, _, rfl, rd_c ⟨D, _, 0, _, rfl, rfl, SqL.of hD, atI_nat (j := 0) rfl, ?_⟩⟩
      refine ⟨_, rfl, _, _, _, bs, ts, la, lo, th, _, m, rfl, h1.same S, hy0, h3.same S, hb, ok, fun H2 v2 S2 z2 => ?_⟩
      obtain ⟨a2, xs2, rfl, ha2, hs2⟩ := DT.inv z2
      cases hs2 with
      | cons hn2 hs2 =>
        cases hs2 with
        | cons c1 hs2 =>
          cases hs2 with
          | cons c2 hs2 =>
            cases hs2
            exact ⟨1, rfl, a2, _, rfl, ha2.sq, fun h => absurd h.1 (show ¬ HT.sIx 3 0 (some 1) = 0 by decide), fun q hq => k _ _ ((S.trans S2).trans (same_upd hq)) (dt_new hq (.cons c1 (.cons c2 .nil)))⟩
end

/-! ### draws, the second way -/
section
variable {P : Program} {w : World} {K : PySem.W.Frag} {mg : Str → Option Value} {base : Heap}
theorem bt_small {x : Int} (h : x.natAbs < 2 ^ 100) : Bt 9000 x := Nat.lt_of_lt_of_le h (Nat.pow_le_pow_right (by decide) (by decide))
theorem bt13 : Bt 9000 13 := bt_small (by decide)
def sp_cell (K : PySem.W.Frag) : Sp := fun vs H Q _ => ∃ (s : Addr) (ns : List Int) (k : Nat), vs = [.ref s, .int (k : Int)] ∧ SqL K H s (ns.map V.int) ∧ k < 2 ^ 41 ∧ ∀ v, 0 ≤ v → Q (.int v) H
theorem ok__law_cell (T : Tx K mg w) : FnOk P w K mg base CX0 1 T.f__law_cell T.d__law_cell ["_law_script", "_law_k"] (sp_cell K) := by
  refine T.F__law_cell.ok sc__law_cell (fun vs H Q E h => ?_) (fun cdv A outer s H vs Q E hr h => ?_)
  · obtain ⟨a, b, c, rfl, _⟩ := h
    rfl
  · obtain ⟨s, ns, k, rfl, hs, hk, q⟩ := h
    refine ⟨_, (pss_cons (ps_if (pt_cmpR op_eq (pe_callB call_len_seq (by rfl) T.m_len (by decide +kernel) (pa_cons (pv 0) pa_nil)) pe_int (nomark _)) (pss_one (ps_ret (pe_op op_add (pe_op op_mulX pe_int (pv 1)) pe_int))) pss_nil)
      (pss_one (ps_ret (pe_callB call_abs (by rfl) T.m_abs (by decide +kernel) (pa_cons (pe_ix ix_list (pv 0) (pe_op op_modN (pv 1) (pe_callB call_len_seq (by rfl) T.m_len (by decide +kernel) (pa_cons (pv 0) pa_nil))) (fun _ _ => rfl)) pa_nil))))), ?_⟩
    refine ⟨.ref s, rfl, s, _, rfl, .inl hs, rd_c (rd_eqi ⟨_, rfl, ite2 (fun e => ?_) (fun e => ?_)⟩)⟩
    · exact ⟨.int (k : Int), rfl, 7, (k : Int), rfl, rfl, mulx_ok (a := 3) (b := 41) (by decide) (by omega) (by decide), _, 3, rfl, rfl, q _ (by omega)⟩
    · have e : ¬ (((ns.map V.int).length : Int) = 0) := fun z => e (decide_eq_true z)
      rw [List.length_map] at e
      have f := @fmod_pos (k : Int) (ns.length : Int) (by omega)
      have hj : ((k : Int).fmod (ns.length : Int)).toNat < ns.length := by omega
      refine ⟨.ref s, rfl, .int (k : Int), rfl, .ref s, rfl, s, _, rfl, .inl hs, (k : Int), ((ns.map V.int).length : Int), rfl, rfl, (by rw [List.length_map]; exact e), s, _, _, .int ns[((k : Int).fmod (ns.length : Int)).toNat], rfl, rfl, hs, ?_, _, rfl, q _ (by split <;> omega)⟩
      refine at_of (j := ((k : Int).fmod (ns.length : Int)).toNat) ?_ ?_
      · show (k : Int).fmod ((ns.map V.int).length : Int) = _
        rw [List.length_map]
        omega
      · rw [List.getElem?_map, List.getElem?_eq_getElem hj]
        rfl
def sp_mixed (K : PySem.W.Frag) : Sp := fun vs H Q _ => ∃ (s : Addr) (ns : List Int) (k : Nat) (m : Int), vs = [.ref s, .int (k : Int), .int m] ∧ SqL K H s (ns.map V.int) ∧ k < 2 ^ 31 ∧ 0 < m ∧ ∀ v, 0 ≤ v → v < m → Q (.int v) H
theorem ok__law_mixed (T : Tx K mg w) : FnOk P w K mg base CX0 2 T.f__law_mixed T.d__law_mixed ["_law_script", "_law_k", "_law_many_here"] (sp_mixed K) := by
  have G__law_cell := ok__law_cell (P := P) (w := w) (base := base) T
  refine T.F__law_mixed.ok sc__law_mixed (fun vs H Q E h => ?_) (fun cdv A outer s H vs Q E hr h => ?_)
  · obtain ⟨a, b, c, d, rfl, _⟩ := h
    rfl
  · obtain ⟨s, ns, k, m, rfl, hs, hk, hm, q⟩ := h
    refine ⟨_, (pss_cons (ps_set (i := 3) sc__law_mixed.nd rfl (Or.inl rfl) (pe_call G__law_cell (hr.mono (by first | decide | omega)) (by rfl) T.g__law_cell T.F__law_cell.kp T.b__law_cell .nil pass0 (pa_cons (pv 0) (pa_cons (pv 1) pa_nil))))
      (pss_cons (ps_set (i := 4) sc__law_mixed.nd rfl (Or.inl rfl) (pe_op op_add (pe_op op_modN (pv 3) pe_int) (pe_op op_modN (pe_op op_fdX (pv 3) pe_int) pe_int)))
      (pss_cons (ps_set (i := 5) sc__law_mixed.nd rfl (Or.inl rfl) (pe_op op_modN (pe_op op_pow (pe_op op_add (pe_op op_mulX (pe_op op_add (pv 4) pe_int) (pe_op op_add (pv 1) pe_int)) (pe_op op_mulX pe_int (pv 1))) pe_int) pe_int))
      (pss_one (ps_ret (pe_op op_modN (pe_op op_fdX (pe_op op_modN (pe_op op_pow (pe_op op_add (pv 5) (pe_op op_mulX pe_int (pv 1))) pe_int) pe_int) pe_int) (pv 2))))))), ?_⟩
    rw [show L2.start nm__law_mixed [.ref s, .int (k : Int), .int m] = [some (.ref s), some (.int (k : Int)), some (.int m), none, none, none] from rfl]
    refine ⟨.ref s, rfl, .int (k : Int), rfl, s, ns, k, rfl, hs, by omega, fun v hv => ?_⟩
    dsimp only [gName, List.set_cons_succ, List.set_cons_zero]
    have f := @fmod_pos v 2147483629 (by decide)
    have f2 := @fmod_pos (v.fdiv 2147483629) 1000003 (by decide)
    refine ⟨.int v, rfl, v, 2147483629, rfl, rfl, (show (2147483629 : Int) ≠ 0 by decide), .int v, rfl, v, 2147483629, rfl, rfl, ⟨by decide, bt_small (by decide)⟩, _, 1000003, rfl, rfl, (show (1000003 : Int) ≠ 0 by decide), _, _, rfl, rfl, ?_⟩
    dsimp only [gName, List.set_cons_succ, List.set_cons_zero]
    generalize v.fmod 2147483629 = x at f ⊢
    generalize (v.fdiv 2147483629).fmod 1000003 = y at f2 ⊢
    refine ⟨_, rfl, _, 5, rfl, rfl, .int (k : Int), rfl, (k : Int), 2, rfl, rfl, _, _, rfl, rfl, mulx_ok (a := 32) (b := 32) (by omega) (by omega) (by decide), .int (k : Int), rfl, 7919, (k : Int), rfl, rfl, mulx_ok (a := 13) (b := 31) (by decide) (by omega) (by decide), _, _, rfl, rfl, ?_⟩
    have hu : ((x + y + 5) * ((k : Int) + 2) + 7919 * (k : Int)).natAbs < 2 ^ 64 := by
      have h1 : (x + y + 5) * ((k : Int) + 2) ≤ 2148483640 * ((k : Int) + 2) := Int.mul_le_mul_of_nonneg_right (by omega) (by omega)
      have h0 : 0 ≤ (x + y + 5) * ((k : Int) + 2) := Int.mul_nonneg (by omega) (by omega)
      omega
    refine ⟨_, 5, rfl, rfl, ⟨by decide, by decide, hu⟩, _, 2305843009213693951, rfl, rfl, (show (2305843009213693951 : Int) ≠ 0 by decide), ?_⟩
    dsimp only [gName, List.set_cons_succ, List.set_cons_zero]
    have f3 := @fmod_pos (((x + y + 5) * ((k : Int) + 2) + 7919 * (k : Int)) ^ (5 : Int).toNat) 2305843009213693951 (by decide)
    generalize (((x + y + 5) * ((k : Int) + 2) + 7919 * (k : Int)) ^ (5 : Int).toNat).fmod 2305843009213693951 = z at f3 ⊢
    refine ⟨_, rfl, .int (k : Int), rfl, 31, (k : Int), rfl, rfl, mulx_ok (a := 5) (b := 31) (by decide) (by omega) (by decide), _, _, rfl, rfl, _, 3, rfl, rfl, ⟨by decide, by decide, by omega⟩, _, 2305843009213693921, rfl, rfl, (show (2305843009213693921 : Int) ≠ 0 by decide), _, 13, rfl, rfl, ⟨by decide, bt13⟩, .int m, rfl, _, m, rfl, rfl, (show m ≠ 0 by omega), ?_⟩
    have g := @fmod_pos (((((z + 31 * (k : Int)) ^ (3 : Int).toNat).fmod 2305843009213693921).fdiv 13)) m hm
    exact q _ g.1 g.2
def sp_take (K : PySem.W.Frag) : Sp := fun vs H Q _ => ∃ (d l s : Addr) (ns : List Int) (c : Nat) (m : Int), vs = [.ref d, .int m] ∧ Dk K H d l s ns c ∧ c < 2 ^ 30 ∧ 0 < m ∧ m < 2 ^ 60 ∧
  ∀ H' v, Keep d l H H' → Dk K H' d l s ns (c + 1) → 0 ≤ v → v < m → Q (.int v) H'
theorem ok__law_take (T : Tx K mg w) : FnOk P w K mg base CX0 3 T.f__law_take T.d__law_take ["_law_deck_here", "_law_many_here"] (sp_take K) := by
  have G__law_mixed := ok__law_mixed (P := P) (w := w) (base := base) T
  refine T.F__law_take.ok sc__law_take (fun vs H Q E h => ?_) (fun cdv A outer s H vs Q E hr h => ?_)
  · obtain ⟨_, _, _, _, _, _, rfl, _⟩ := h
    rfl
  · obtain ⟨d, l, s, ns, c, m, rfl, hD, hc, hm, hm2, q⟩ := h
    refine ⟨_, (pss_cons (ps_while PassesOwn.never (pt_cmpR op_lt (pe_ix ix_list (pv 0) pe_int (fun _ _ => rfl)) (pe_callB call_len_seq (by rfl) T.m_len (by decide +kernel) (pa_cons (pe_ix ix_list (pv 0) pe_int (fun _ _ => rfl)) pa_nil)) (nomark _)) (pss_cons (ps_set (i := 2) sc__law_take.nd rfl (Or.inl rfl) (pe_ix ix_list (pe_ix ix_list (pv 0) pe_int (fun _ _ => rfl)) (pe_ix ix_list (pv 0) pe_int (fun _ _ => rfl)) (fun _ _ => rfl)))
      (pss_cons (ps_if (pt_cmpR op_gt (pv 2) pe_int (nomark _)) (pss_cons (ps_asg (pe_op op_fdX (pv 2) (pv 1)) (pg_sub (pe_ix ix_list (pv 0) pe_int (fun _ _ => rfl)) (pe_ix ix_list (pv 0) pe_int (fun _ _ => rfl)) set_list))
      (pss_one (ps_ret (pe_op op_modN (pv 2) (pv 1))))) pss_nil)
      (pss_one (ps_asg (pe_op op_add (pe_ix ix_list (pv 0) pe_int (fun _ _ => rfl)) pe_int) (pg_sub (pv 0) pe_int set_list))))))
      (pss_cons (ps_asg (pe_op op_add (pe_ix ix_list (pv 0) pe_int (fun _ _ => rfl)) pe_int) (pg_sub (pv 0) pe_int set_list))
      (pss_one (ps_ret (pe_call G__law_mixed (hr.mono (by first | decide | omega)) (by rfl) T.g__law_mixed T.F__law_mixed.kp T.b__law_mixed .nil pass0 (pa_cons (pe_ix ix_list (pv 0) pe_int (fun _ _ => rfl)) (pa_cons (pe_ix ix_list (pv 0) pe_int (fun _ _ => rfl)) (pa_cons (pv 1) pa_nil)))))))), ?_⟩
    have hdl := hD.ne
    obtain ⟨xs, i, k, hd, hl, hk, hs⟩ := hD
    refine ⟨fun n σ H1 => ∃ (xs : List Int) (i k : Nat) (y : Option V), σ = [some (.ref d), some (.int m), y] ∧ Keep d l H H1 ∧ H1 d = some (.lst [.ref s, .ref l, .int (i : Int), .int (k : Int)]) ∧ H1 l = some (.lst (xs.map V.int)) ∧ k ≤ c ∧ Sct K H1 d l s (ns.map V.int) ∧ n = xs.length - i,
      ⟨_, xs, i, k, none, rfl, Keep.refl, hd, hl, hk, hs, rfl⟩, fun n σ H1 hW => ?_⟩
    obtain ⟨xs, i, k, y, rfl, kp, hd, hl, hk, hs, rfl⟩ := hW
    refine ⟨.ref d, rfl, d, _, 2, .int (i : Int), rfl, rfl, SqL.of hd, rfl, .ref d, rfl, d, _, 1, .ref l, rfl, rfl, SqL.of hd, rfl, l, _, rfl, .inl (SqL.of hl), (i : Int), ((xs.map V.int).length : Int), rfl, rfl, _, rfl, ite2 (fun e => ?_) (fun e => ?_)⟩
    · have hi := of_decide_eq_true e
      rw [List.length_map] at hi
      have hi : i < xs.length := by omega
      refine ⟨fun σ' H' => ∃ m', m' < xs.length - i ∧ ∃ (xs : List Int) (i k : Nat) (y : Option V), σ' = [some (.ref d), some (.int m), y] ∧ Keep d l H H' ∧ H' d = some (.lst [.ref s, .ref l, .int (i : Int), .int (k : Int)]) ∧ H' l = some (.lst (xs.map V.int)) ∧ k ≤ c ∧ Sct K H' d l s (ns.map V.int) ∧ m' = xs.length - i,
        fun _ _ h => h, ?_⟩
      have ga : (xs.map V.int)[i]? = some (.int xs[i]) := by
        rw [List.getElem?_map, List.getElem?_eq_getElem hi]
        rfl
      refine ⟨.ref d, rfl, d, _, 1, .ref l, rfl, rfl, SqL.of hd, rfl, .ref d, rfl, d, _, 2, .int (i : Int), rfl, rfl, SqL.of hd, rfl, l, _, (i : Int), .int xs[i], rfl, rfl, SqL.of hl, atI_nat ga, ?_⟩
      refine ⟨.int xs[i], rfl, xs[i], 0, rfl, rfl, _, rfl, ite2 (fun e => ?_) (fun e => ?_)⟩
      · have f := @fmod_pos xs[i] m hm
        have ix : ixN (xs.map V.int).length (i : Int) = some i := by
          unfold ixN
          rw [List.length_map, if_pos (by omega), if_pos (by omega)]
          rfl
        refine ⟨.int xs[i], rfl, .int m, rfl, xs[i], m, rfl, rfl, ⟨(show m ≠ 0 by omega), bt_small (by omega)⟩, .ref d, rfl, d, _, 1, .ref l, rfl, rfl, SqL.of hd, rfl, .ref d, rfl, d, _, 2, .int (i : Int), rfl, rfl, SqL.of hd, rfl, l, _, (i : Int), i, rfl, rfl, hl, ix, ?_⟩
        refine ⟨.int xs[i], rfl, .int m, rfl, xs[i], m, rfl, rfl, (show m ≠ 0 by omega), q _ _ (kp.trans keep_l) ?_ f.1 f.2⟩
        refine ⟨xs.set i (xs[i].fdiv m), i, k, ?_, ?_, by omega, hs.keep keep_l⟩
        · rw [upd_ne hdl]
          exact hd
        · rw [upd_same, List.map_set]
      · refine ⟨.ref d, rfl, d, _, 2, .int (i : Int), rfl, rfl, SqL.of hd, rfl, (i : Int), 1, rfl, rfl, .ref d, rfl, d, _, 2, 2, rfl, rfl, hd, rfl, ?_⟩
        refine ⟨_, ?_, xs, i + 1, k, some (.int xs[i]), rfl, kp.trans keep_d, upd_same, ?_, hk, hs.keep keep_d, rfl⟩
        · omega
        · rw [upd_ne hdl.symm]
          exact hl
    · refine ⟨.ref d, rfl, d, _, 3, .int (k : Int), rfl, rfl, SqL.of hd, rfl, (k : Int), 1, rfl, rfl, .ref d, rfl, d, _, 3, 3, rfl, rfl, hd, rfl, ?_⟩
      have hd' : upd H1 d (.lst [.ref s, .ref l, .int (i : Int), .int ((k + 1 : Nat) : Int)]) d = some (.lst [.ref s, .ref l, .int (i : Int), .int ((k + 1 : Nat) : Int)]) := upd_same
      have hs' : Sct K (upd H1 d (.lst [.ref s, .ref l, .int (i : Int), .int ((k + 1 : Nat) : Int)])) d l s (ns.map V.int) := hs.keep keep_d
      refine ⟨.ref d, rfl, d, _, 0, .ref s, rfl, rfl, SqL.of hd', rfl, .ref d, rfl, d, _, 3, .int ((k + 1 : Nat) : Int), rfl, rfl, SqL.of hd', rfl, .int m, rfl, s, ns, k + 1, m, rfl, hs'.sq, by omega, hm, fun v v0 v1 => ?_⟩
      refine q _ v (kp.trans keep_d) ⟨xs, i, k + 1, hd', ?_, by omega, hs'⟩ v0 v1
      rw [upd_ne hdl.symm]
      exact hl
def sp_deck (K : PySem.W.Frag) : Sp := fun vs H Q _ => ∃ (s : Addr) (ns : List Int), vs = [.ref s] ∧ SqL K H s (ns.map V.int) ∧ ns.length ≤ 63 ∧
  ∀ H' d l, Same H H' → Dk K H' d l s ns 0 → H d = none → H l = none → Q (.ref d) H'
theorem ok__law_deck (T : Tx K mg w) : FnOk P w K mg base CX0 1 T.f__law_deck T.d__law_deck ["_law_script"] (sp_deck K) := by
  refine T.F__law_deck.ok sc__law_deck (fun vs H Q E h => ?_) (fun cdv A outer s H vs Q E hr h => ?_)
  · obtain ⟨_, _, rfl, _⟩ := h
    rfl
  · obtain ⟨s, ns, rfl, hs, hn, q⟩ := h
    refine ⟨_, (pss_one (ps_ret (pe_lst (pa_cons (pv 0) (pa_cons (pe_lc (own := [("_law_one", 1)]) (g := gName 1) (by rfl) sc__law_deck.nd (pi_list (pv 0)) (blkOk_by (own := [("_law_one", 1)]) (N := nm__law_deck) (sc := defScope s__law_deck) (by decide +kernel)) (fun _ _ _ _ _ => (pg_name (i := 1) sc__law_deck.nd rfl (Or.inl rfl))) (fun _ _ _ _ _ => (pts_one (pt_cmpR op_ge (pe_callB call_abs (by rfl) T.m_abs (by decide +kernel) (pa_cons (pv 1) pa_nil)) (pe_op op_pow pe_int pe_int) (nomark _)))) (fun _ _ _ _ _ => (pe_callB call_abs (by rfl) T.m_abs (by decide +kernel) (pa_cons (pv 1) pa_nil)))) (pa_cons pe_int (pa_cons pe_int pa_nil))))))), ?_⟩
    refine ⟨.ref s, rfl, .ref s, rfl, s, rfl, ⟨_, hs⟩, fun D nD => ?_⟩
    refine lc_list (K := K) (a := s) (xs := ns.map V.int) (fun i H' => Same H H' ∧ ∃ xs : List Int, H' D = some (.lst (xs.map V.int)) ∧ xs.length ≤ i) ⟨same_upd nD, [], upd_same, Nat.le_refl _⟩ (fun i H' _ h => h.1.seq hs) (fun i x H' hx h => ?_) (fun H' h => ?_)
    · obtain ⟨hS, xs, hx', hxl⟩ := h
      have hil : i < (ns.map V.int).length := (List.getElem?_eq_some_iff.mp hx).1
      rw [List.length_map] at hil
      obtain ⟨z, rfl⟩ : ∃ z, x = .int z := by
        rw [List.getElem?_map, List.getElem?_eq_getElem hil] at hx
        exact ⟨_, (Option.some.inj hx).symm⟩
      refine ⟨rfl, .int z, rfl, z, rfl, 10, 18, rfl, rfl, ⟨by decide, by decide, by decide⟩, _, _, rfl, rfl, _, rfl, ite2 (fun e => ?_) (fun e => ?_)⟩
      · refine ⟨.int z, rfl, z, rfl, _, hx', small1000 (by rw [List.length_map]; omega), fun a o e => ?_, xs ++ [if z < 0 then -z else z], ?_, ?_⟩
        · rw [upd_ne (ne_of_none e nD)]
          exact hS a o e
        · rw [upd_same, List.map_append]
          rfl
        · rw [List.length_append]
          exact Nat.add_le_add_right hxl 1
      · exact ⟨hS, xs, hx', by omega⟩
    · obtain ⟨hS, xs, hx', hxl⟩ := h
      refine ⟨sz_n (by decide : 4 ≤ 1000), fun d nd => ?_⟩
      have nd0 : H d = none := hS.free nd
      refine q _ d D (hS.trans (same_upd nd)) ⟨xs, 0, 0, upd_same, ?_, Nat.le_refl _, sct_of hs (hS.trans (same_upd nd)) nd0 nD⟩ nd0 nD
      rw [upd_ne (ne_of_none hx' nd)]
      exact hx'
end

theorem Dk.apart {K : PySem.W.Frag} {H : Hp} {d l s D : Addr} {ns : List Int} {c : Nat} (h : Dk K H d l s ns c) (nD : H D = none) : D ≠ d ∧ D ≠ l ∧ ((∀ H', SqL K H' s (ns.map V.int)) ∨ s ≠ D) := by
  obtain ⟨xs, i, k, h1, h2, _, h4⟩ := h
  refine ⟨(ne_of_none h1 nD).symm, (ne_of_none h2 nD).symm, ?_⟩
  rcases h4 with h4 | ⟨h4, _, _⟩
  · exact .inl h4
  · rcases h4 with (h | ⟨o, h⟩) | h
    · exact .inr (ne_of_none h nD)
    · exact .inr (ne_of_none h nD)
    · exact .inl fun _ => .inr h
theorem Dk.beside {K : PySem.W.Frag} {H : Hp} {d l s D : Addr} {o : HO} {ns : List Int} {c : Nat} (h : Dk K H d l s ns c) (a : D ≠ d ∧ D ≠ l ∧ ((∀ H', SqL K H' s (ns.map V.int)) ∨ s ≠ D)) : Dk K (upd H D o) d l s ns c := by
  obtain ⟨xs, i, k, h1, h2, h3, h4⟩ := h
  obtain ⟨a1, a2, a3⟩ := a
  refine ⟨xs, i, k, ?_, ?_, h3, ?_⟩
  · rw [upd_ne a1.symm]
    exact h1
  · rw [upd_ne a2.symm]
    exact h2
  · rcases a3 with a3 | a3
    · exact .inl a3
    · rcases h4 with h4 | ⟨(h | ⟨z, h⟩) | h, b1, b2⟩
      · exact .inl h4
      · refine .inr ⟨.inl (.inl ?_), b1, b2⟩
        rw [upd_ne a3]
        exact h
      · refine .inr ⟨.inl (.inr ⟨z, ?_⟩), b1, b2⟩
        rw [upd_ne a3]
        exact h
      · exact .inl fun _ => .inr h

/-! ### the second family's fractions and points -/
section
variable {P : Program} {w : World} {K : PySem.W.Frag} {mg : Str → Option Value} {base : Heap}
def sp_gcd : Sp := fun vs H Q _ => ∃ a b : Int, vs = [.int a, .int b] ∧ Q (.int (Int.gcd a b : Int)) H
theorem ok__law_gcd (T : Tx K mg w) : FnOk P w K mg base CX0 1 T.f__law_gcd T.d__law_gcd ["_law_one", "_law_other"] sp_gcd := by
  refine T.F__law_gcd.ok sc__law_gcd (fun vs H Q E h => ?_) (fun cdv A outer s H vs Q E hr h => ?_)
  · obtain ⟨a, b, rfl, _⟩ := h
    rfl
  · obtain ⟨a, b, rfl, q⟩ := h
    refine ⟨_, (pss_cons (ps_while PassesOwn.never (pt_cmpR op_ne (pv 1) pe_int (nomark _)) (pss_cons (ps_set (i := 2) sc__law_gcd.nd rfl (Or.inl rfl) (pe_op op_modN (pv 0) (pv 1)))
      (pss_cons (ps_set (i := 0) sc__law_gcd.nd rfl (Or.inl rfl) (pv 1))
      (pss_one (ps_set (i := 1) sc__law_gcd.nd rfl (Or.inl rfl) (pv 2))))))
      (pss_one (ps_ret (pe_callB call_abs (by rfl) T.m_abs (by decide +kernel) (pa_cons (pv 0) pa_nil))))), ?_⟩
    refine ⟨fun m σ H' => H' = H ∧ ∃ (x y : Int) (r : Option V), σ = [some (.int x), some (.int y), r] ∧ m = y.natAbs ∧ Int.gcd x y = Int.gcd a b, ⟨_, rfl, a, b, none, rfl, rfl, rfl⟩, fun m σ H2 hW => ?_⟩
    obtain ⟨rfl, x, y, r, rfl, rfl, inv⟩ := hW
    refine ⟨.int y, rfl, rfl, _, rfl, ?_⟩
    by_cases hy : y = 0
    · subst hy
      refine ite_no (by simp) ?_
      refine ⟨_, rfl, _, rfl, ?_⟩
      rw [← inv, Int.gcd_zero_right] at q
      rw [show (if x < 0 then -x else x) = (x.natAbs : Int) by split <;> omega]
      exact q
    · refine ite_yes (by simp [hy]) ?_
      refine ⟨fun σ' H' => ∃ m', m' < y.natAbs ∧ H' = H2 ∧ ∃ (x y : Int) (r : Option V), σ' = [some (.int x), some (.int y), r] ∧ m' = y.natAbs ∧ Int.gcd x y = Int.gcd a b, fun _ _ h => h, ?_⟩
      have lt : (x.fmod y).natAbs < y.natAbs := by
        rcases Int.lt_or_lt_of_ne hy with h | h
        · have := @fmod_neg x y h; omega
        · have := @fmod_pos x y h; omega
      exact ⟨.int x, rfl, .int y, rfl, x, y, rfl, rfl, hy, .int y, rfl, _, rfl, _, lt, rfl, y, x.fmod y, _, rfl, rfl, by rw [gcd_step]; exact inv⟩
theorem ok__law_frac (T : Tx K mg w) : FnOk P w K mg base CX0 2 T.f__law_frac T.d__law_frac ["_law_above", "_law_below"] sp_frac := by
  have G__law_gcd := ok__law_gcd (P := P) (w := w) (base := base) T
  refine T.F__law_frac.ok sc__law_frac (fun vs H Q E h => ?_) (fun cdv A outer s H vs Q E hr h => ?_)
  · obtain ⟨a, b, rfl, _⟩ := h
    rfl
  · obtain ⟨a, b, rfl, hb, hB, q⟩ := h
    refine ⟨_, (pss_cons (ps_set (i := 2) sc__law_frac.nd rfl (Or.inl rfl) (pe_call G__law_gcd (hr.mono (by first | decide | omega)) (by rfl) T.g__law_gcd T.F__law_gcd.kp T.b__law_gcd .nil pass0 (pa_cons (pv 0) (pa_cons (pv 1) pa_nil))))
      (pss_cons (ps_if (pt_cmpR op_lt (pv 1) pe_int (nomark _)) (pss_one (ps_set (i := 2) sc__law_frac.nd rfl (Or.inl rfl) (pe_un un_neg (pv 2)))) pss_nil)
      (pss_one (ps_ret (pe_tup (pa_cons (pe_op op_fdX (pv 0) (pv 2)) (pa_cons (pe_op op_fdX (pv 1) (pv 2)) pa_nil))))))), ?_⟩
    have sn := sg_ne (a := a) hb
    have bx : Bt 9000 (sg a b) := hB.le sn.2
    have fin : ∀ x : Int, x = sg a b → tRet (tTup (tCons (tOp (rI (fun _ j => j ≠ 0 ∧ Bt 9000 j) fun i j => V.int (i.fdiv j)) (tVar 0) (tVar 2)) (tCons (tOp (rI (fun _ j => j ≠ 0 ∧ Bt 9000 j) fun i j => V.int (i.fdiv j)) (tVar 1) (tVar 2)) tNil))) { nx := fun _ H' => Q .non H', rt := Q } [some (.int a), some (.int b), some (.int x)] H := fun x ex => by
      subst ex
      exact ⟨.int a, rfl, .int (sg a b), rfl, a, sg a b, rfl, rfl, ⟨sn.1, bx⟩, .int b, rfl, .int (sg a b), rfl, b, sg a b, rfl, rfl, ⟨sn.1, bx⟩, sz_n (by decide : 2 ≤ 1000), fun p hp => q _ _ (same_upd hp) (frv_new (sg_num hb) (sg_den hb))⟩
    refine ⟨.int a, rfl, .int b, rfl, a, b, rfl, ?_⟩
    refine ⟨.int b, rfl, b, 0, rfl, rfl, _, rfl, ite2 (fun e => ?_) (fun e => ?_)⟩
    · have e := of_decide_eq_true e
      refine ⟨_, rfl, _, rfl, fin _ ?_⟩
      unfold sg
      rw [if_pos e]
    · have e : ¬ b < 0 := fun z => e (decide_eq_true z)
      refine fin _ ?_
      unfold sg
      rw [if_neg e]
theorem okD__law_plus (T : Tx K mg w) : FnOk P w K mg base CX0 3 T.f__law_plus T.d__law_plus ["_law_one", "_law_other"] (spD_two K (fun q r => q + r) (fun _ => True)) := by
  have G__law_frac := ok__law_frac (P := P) (w := w) (base := base) T
  refine T.F__law_plus.ok sc__law_plus (fun vs H Q E h => two_lenD h) (fun cdv A outer s H vs Q E hr h => ?_)
  obtain ⟨_, _, q, r, m, n, rfl, f1, f2, ⟨bq, bq'⟩, ⟨br, br'⟩, hmn, ok, k⟩ := h
  obtain ⟨p1, rfl, h1⟩ := fr_inv f1
  obtain ⟨p2, rfl, h2⟩ := fr_inv f2
  refine ⟨_, (pss_one (ps_ret (pe_call G__law_frac (hr.mono (by first | decide | omega)) (by rfl) T.g__law_frac T.F__law_frac.kp T.b__law_frac .nil pass0 (pa_cons (pe_op op_add (pe_op op_mulX (pe_ix ix_tup (pv 0) pe_int (fun _ _ => rfl)) (pe_ix ix_tup (pv 1) pe_int (fun _ _ => rfl))) (pe_op op_mulX (pe_ix ix_tup (pv 1) pe_int (fun _ _ => rfl)) (pe_ix ix_tup (pv 0) pe_int (fun _ _ => rfl)))) (pa_cons (pe_op op_mulX (pe_ix ix_tup (pv 0) pe_int (fun _ _ => rfl)) (pe_ix ix_tup (pv 1) pe_int (fun _ _ => rfl))) pa_nil))))), ?_⟩
  refine rd_ixS rfl h1 rfl (rd_ixS rfl h2 rfl (rd_mul bq br' (by omega) (rd_ixS rfl h2 rfl (rd_ixS rfl h1 rfl (rd_mul br bq' (by omega) (rd_i0 (rd_ixS rfl h1 rfl (rd_ixS rfl h2 rfl (rd_mul bq' br' (by omega) ?_)))))))))
  exact ⟨_, _, rfl, Int.mul_ne_zero (den_ne q) (den_ne r), (bq'.mul br').mono (by omega), fun H' v s f => k H' v s (fr_of (by rw [rat_sum] at f; exact f))⟩
theorem okD__law_times (T : Tx K mg w) : FnOk P w K mg base CX0 3 T.f__law_times T.d__law_times ["_law_one", "_law_other"] (spD_two K (fun q r => q * r) (fun _ => True)) := by
  have G__law_frac := ok__law_frac (P := P) (w := w) (base := base) T
  refine T.F__law_times.ok sc__law_times (fun vs H Q E h => two_lenD h) (fun cdv A outer s H vs Q E hr h => ?_)
  obtain ⟨_, _, q, r, m, n, rfl, f1, f2, ⟨bq, bq'⟩, ⟨br, br'⟩, hmn, ok, k⟩ := h
  obtain ⟨p1, rfl, h1⟩ := fr_inv f1
  obtain ⟨p2, rfl, h2⟩ := fr_inv f2
  refine ⟨_, (pss_one (ps_ret (pe_call G__law_frac (hr.mono (by first | decide | omega)) (by rfl) T.g__law_frac T.F__law_frac.kp T.b__law_frac .nil pass0 (pa_cons (pe_op op_mulX (pe_ix ix_tup (pv 0) pe_int (fun _ _ => rfl)) (pe_ix ix_tup (pv 1) pe_int (fun _ _ => rfl))) (pa_cons (pe_op op_mulX (pe_ix ix_tup (pv 0) pe_int (fun _ _ => rfl)) (pe_ix ix_tup (pv 1) pe_int (fun _ _ => rfl))) pa_nil))))), ?_⟩
  refine rd_ixS rfl h1 rfl (rd_ixS rfl h2 rfl (rd_mul bq br (by omega) (rd_ixS rfl h1 rfl (rd_ixS rfl h2 rfl (rd_mul bq' br' (by omega) ?_)))))
  exact ⟨_, _, rfl, Int.mul_ne_zero (den_ne q) (den_ne r), (bq'.mul br').mono (by omega), fun H' v s f => k H' v s (fr_of (by rw [rat_prod] at f; exact f))⟩
def spD_opp (K : PySem.W.Frag) : Sp := fun vs H Q _ => ∃ v q, vs = [v] ∧ DT K H v (eF q) ∧ ∀ H' v, Same H H' → DT K H' v (eF (-q)) → Q v H'
theorem e3 {f : Nat → PyData} (p : PyData) {i : Nat} (h : ([f 0, f 1, f 2] : List PyData)[i]? = some p) : i < 3 ∧ p = f i := by
  match i, h with
  | 0, h => exact ⟨by decide, (Option.some.inj h).symm⟩
  | 1, h => exact ⟨by decide, (Option.some.inj h).symm⟩
  | 2, h => exact ⟨by decide, (Option.some.inj h).symm⟩
def P3.at (p : P3) : Nat → Rat
  | 0 => p.x
  | 1 => p.y
  | _ => p.z
theorem eP_at (p : P3) : eP p = .tuple [eF (p.at 0), eF (p.at 1), eF (p.at 2)] := rfl
theorem P3.B.at {n : Nat} {p : P3} (h : p.B n) : ∀ i, Rb n (p.at i)
  | 0 => h.1
  | 1 => h.2.1
  | _ + 2 => h.2.2
theorem at_get {p : P3} {i : Nat} (h : i < 3) : ([eF (p.at 0), eF (p.at 1), eF (p.at 2)] : List PyData)[i]? = some (eF (p.at i)) := by
  match i, h with
  | 0, _ => rfl
  | 1, _ => rfl
  | 2, _ => rfl
theorem okD__law_added (T : Tx K mg w) : FnOk P w K mg base CX0 4 T.f__law_added T.d__law_added ["_law_one", "_law_other"] (spD_ptpt K P3.add) := by
  have G__law_plus := okD__law_plus (P := P) (w := w) (base := base) T
  refine T.F__law_added.ok sc__law_added (fun vs H Q E h => ?_) (fun cdv A outer s H vs Q E hr h => ?_)
  · obtain ⟨_, _, _, _, rfl, _⟩ := h
    rfl
  obtain ⟨v1, v2, p, q, rfl, h1, h2, b1, b2, k⟩ := h
  refine ⟨_, (pss_one (ps_ret (pe_callTy call_tuple_of (by rfl) T.m_tuple (by decide +kernel) (pa_cons (pe_lc (own := [("_law_k", 2)]) (g := gName 2) (by rfl) sc__law_added.nd (pi_range1 (by rfl) T.m_range (pa_cons pe_int pa_nil)) (blkOk_by (own := [("_law_k", 2)]) (N := nm__law_added) (sc := defScope s__law_added) (by decide +kernel)) (fun _ _ _ _ _ => (pg_name (i := 2) sc__law_added.nd rfl (Or.inl rfl))) (fun _ _ _ _ _ => pts_nil) (fun _ _ _ _ _ => (pe_call G__law_plus (hr.mono (by first | decide | omega)) (by rfl) T.g__law_plus T.F__law_plus.kp T.b__law_plus .nil pass0 (pa_cons (pe_ix (ix_tupC (K := K) rfl) (pv 0) (pv 2) (fun _ _ => rfl)) (pa_cons (pe_ix (ix_tupC (K := K) rfl) (pv 1) (pv 2) (fun _ _ => rfl)) pa_nil))))) pa_nil)))), ?_⟩
  refine ⟨3, rfl, by decide, by decide, fun D nD => ?_⟩
  refine lc_mapR (K := K) (n := 3) [eF (p.at 0 + q.at 0), eF (p.at 1 + q.at 1), eF (p.at 2 + q.at 2)] nD rfl (by decide) (fun i H2 d hi hd S R r => ?_) (fun H2 ys S hD hys => ?_)
  · obtain ⟨_, rfl⟩ := e3 (f := fun i => eF (p.at i + q.at i)) d hd
    refine ⟨rfl, _, rfl, _, rfl, ?_⟩
    rw [Int.zero_add]
    refine rx_dt (h1.same S) (at_get hi) fun x hx => ?_
    refine ⟨_, rfl, _, rfl, rx_dt (h2.same S) (at_get hi) fun y hy => ?_⟩
    exact ⟨_, _, _, _, 4000, 4000, rfl, hx, hy, b1.at i, b2.at i, by decide, trivial, fun H3 y S3 hy => r y H3 S3 hy⟩
  · exact ⟨D, ys, rfl, .inl ⟨SqL.of hD, fun l hl => k _ _ (S.trans (same_upd hl)) (dt_new hl hys)⟩⟩
theorem rb_neg {n : Nat} {q : Rat} (h : Rb n q) : Rb n (-q) := ⟨h.1.neg, h.2⟩
theorem okD__law_many (T : Tx K mg w) : FnOk P w K mg base CX0 4 T.f__law_many T.d__law_many ["_law_point_here", "_law_number_here"] (spD_scale K) := by
  have G__law_times := okD__law_times (P := P) (w := w) (base := base) T
  refine T.F__law_many.ok sc__law_many (fun vs H Q E h => ?_) (fun cdv A outer s H vs Q E hr h => ?_)
  · obtain ⟨_, _, _, _, rfl, _⟩ := h
    rfl
  obtain ⟨v1, v2, p, c, rfl, h1, h2, b1, bc, k⟩ := h
  refine ⟨_, (pss_one (ps_ret (pe_callTy call_tuple_of (by rfl) T.m_tuple (by decide +kernel) (pa_cons (pe_lc (own := [("_law_part", 2)]) (g := gName 2) (by rfl) sc__law_many.nd (pi_tup (pv 0)) (blkOk_by (own := [("_law_part", 2)]) (N := nm__law_many) (sc := defScope s__law_many) (by decide +kernel)) (fun _ _ _ _ _ => (pg_name (i := 2) sc__law_many.nd rfl (Or.inl rfl))) (fun _ _ _ _ _ => pts_nil) (fun _ _ _ _ _ => (pe_call G__law_times (hr.mono (by first | decide | omega)) (by rfl) T.g__law_times T.F__law_times.kp T.b__law_times .nil pass0 (pa_cons (pv 2) (pa_cons (pv 1) pa_nil))))) pa_nil)))), ?_⟩
  obtain ⟨a, xs, rfl, ha, hs⟩ := DT.inv h1
  refine ⟨_, rfl, a, rfl, ⟨_, ha.sq⟩, fun D nD => ?_⟩
  refine lc_mapT [eF (p.at 0 * c), eF (p.at 1 * c), eF (p.at 2 * c)] nD ha.sq (hs.len.symm) (by show 3 ≤ 1000; decide) (fun i x H2 d hx hd S R r => ?_) (fun H2 ys S hD hys => ?_)
  · obtain ⟨hi, rfl⟩ := e3 (f := fun i => eF (p.at i * c)) d hd
    obtain ⟨d', e', hx'⟩ := hs.get' hx
    have e' := (at_get (p := p) hi).symm.trans e'
    cases e'
    exact ⟨rfl, _, rfl, _, rfl, _, _, _, _, 4000, 4000, rfl, hx'.same S, h2.same S, b1.at i, bc, by decide, trivial, fun H3 y S3 hy => r y H3 S3 hy⟩
  · exact ⟨D, ys, rfl, .inl ⟨SqL.of hD, fun l hl => k _ _ (S.trans (same_upd hl)) (dt_new hl hys)⟩⟩
end

/-! ### sizes: a whole number over a fixed one -/
def Fx (D N : Nat) (q : Rat) : Prop := ∃ a : Int, q = Rat.divInt a D ∧ a.natAbs ≤ N
theorem Fx.mono {D N N' : Nat} {q : Rat} (h : Fx D N q) (hn : N ≤ N') : Fx D N' q := by
  obtain ⟨a, e, h⟩ := h
  exact ⟨a, e, Nat.le_trans h hn⟩
theorem Fx.rb {D N n : Nat} {q : Rat} (h : Fx D N q) (h0 : 0 < D) (hD : D < 2 ^ n) (hN : N < 2 ^ n) : Rb n q := by
  obtain ⟨a, rfl, h⟩ := h
  exact rb_div (by omega) (show a.natAbs < 2 ^ n by omega) (show ((D : Int)).natAbs < 2 ^ n by omega)
theorem Fx.add {D N M : Nat} {q r : Rat} (h0 : 0 < D) (h : Fx D N q) (k : Fx D M r) : Fx D (N + M) (q + r) := by
  obtain ⟨a, rfl, h⟩ := h
  obtain ⟨b, rfl, k⟩ := k
  refine ⟨a + b, ?_, by omega⟩
  have hd : ((D : Int)) ≠ 0 := by omega
  rw [Rat.divInt_add_divInt _ _ hd hd, Rat.divInt_eq_divInt_iff (Int.mul_ne_zero hd hd) hd]
  grind
theorem Fx.mul {D E N M : Nat} {q r : Rat} (h : Fx D N q) (k : Fx E M r) : Fx (D * E) (N * M) (q * r) := by
  obtain ⟨a, rfl, h⟩ := h
  obtain ⟨b, rfl, k⟩ := k
  refine ⟨a * b, ?_, ?_⟩
  · rw [Rat.divInt_mul_divInt, Int.natCast_mul]
  · rw [Int.natAbs_mul]; exact Nat.mul_le_mul h k
theorem Fx.neg {D N : Nat} {q : Rat} (h : Fx D N q) : Fx D N (-q) := by
  obtain ⟨a, rfl, h⟩ := h
  exact ⟨-a, by rw [Rat.neg_divInt], by omega⟩
theorem Fx.up {D N : Nat} {q : Rat} (k : Nat) (hk : 0 < k) (h : Fx D N q) (h0 : 0 < D) : Fx (D * k) (N * k) q := by
  obtain ⟨a, rfl, h⟩ := h
  refine ⟨a * k, ?_, ?_⟩
  · rw [Rat.divInt_eq_divInt_iff (by omega) (by have := Nat.mul_pos h0 hk; omega), Int.natCast_mul]
    grind
  · rw [Int.natAbs_mul]; exact Nat.mul_le_mul h (by omega)
theorem Fx.zero {D N : Nat} : Fx D N 0 := ⟨0, by rw [Rat.zero_divInt], by omega⟩
def P3.F (D N : Nat) (p : P3) : Prop := Fx D N p.x ∧ Fx D N p.y ∧ Fx D N p.z
theorem P3.F.B {D N n : Nat} {p : P3} (h : p.F D N) (h0 : 0 < D) (hD : D < 2 ^ n) (hN : N < 2 ^ n) : p.B n := ⟨h.1.rb h0 hD hN, h.2.1.rb h0 hD hN, h.2.2.rb h0 hD hN⟩
theorem P3.F.add {D N M : Nat} {p q : P3} (h0 : 0 < D) (h : p.F D N) (k : q.F D M) : (p.add q).F D (N + M) := ⟨h.1.add h0 k.1, h.2.1.add h0 k.2.1, h.2.2.add h0 k.2.2⟩
theorem P3.F.mono {D N M : Nat} {p : P3} (h : p.F D N) (hn : N ≤ M) : p.F D M := ⟨h.1.mono hn, h.2.1.mono hn, h.2.2.mono hn⟩
theorem P3.F.scale {D E N M : Nat} {p : P3} {k : Rat} (h : p.F D N) (hk : Fx E M k) : (p.scale k).F (D * E) (N * M) := ⟨h.1.mul hk, h.2.1.mul hk, h.2.2.mul hk⟩
theorem P3.F.dot {D E N M : Nat} {p q : P3} (h0 : 0 < D * E) (h : p.F D N) (k : q.F E M) : Fx (D * E) (N * M + N * M + N * M) (p.dot q) := ((h.1.mul k.1).add h0 (h.2.1.mul k.2.1)).add h0 (h.2.2.mul k.2.2)
theorem divInt_pos {a b : Int} (ha : 0 < a) (hb : 0 < b) : 0 < Rat.divInt a b := by
  have h1 : 0 ≤ Rat.divInt a b := by
    refine Rat.num_nonneg.mp ?_
    rw [← sg_num (by omega)]
    have sp : 0 < sg a b := by
      have := (sg_ne (a := a) (b := b) (by omega)).1
      unfold sg at *
      rw [if_neg (by omega)] at *
      omega
    rw [Int.fdiv_eq_ediv_of_nonneg _ (by omega)]
    exact Int.ediv_nonneg (by omega) (by omega)
  have h2 : Rat.divInt a b ≠ 0 := fun z => by
    have := (Rat.divInt_eq_divInt_iff (d₁ := b) (d₂ := 1) (n₁ := a) (n₂ := 0) (by omega) (by decide)).mp (by rw [z]; rfl)
    omega
  grind
/-- a leaf's form as the laws draw it -/
def LeafF : Form → Prop
  | .box lo hi => lo.F 42 378 ∧ hi.F 42 756 ∧ lo.x < hi.x ∧ lo.y < hi.y ∧ lo.z < hi.z
  | .ball m r => m.F 42 378 ∧ Fx 42 378 r ∧ 0 < r
  | .half w b => w.F 42 378 ∧ Fx 42 378 b ∧ ¬ (w.x = 0 ∧ w.y = 0 ∧ w.z = 0)
  | _ => False
section
variable {P : Program} {w : World} {K : PySem.W.Frag} {mg : Str → Option Value} {base : Heap}
theorem fx42 {a b : Int} (ha : a.natAbs ≤ 9) (hb : b = 1 ∨ b = 2 ∨ b = 3 ∨ b = 7) : Fx 42 378 (Rat.divInt a b) := by
  refine ⟨a * (42 / b), ?_, ?_⟩
  · rcases hb with rfl | rfl | rfl | rfl <;> rw [Rat.divInt_eq_divInt_iff (by decide) (by decide)] <;> omega
  · rcases hb with rfl | rfl | rfl | rfl <;> omega
def sp_num (K : PySem.W.Frag) (lo : Int) : Sp := fun vs H Q _ => ∃ (d l s : Addr) (ns : List Int) (c : Nat), vs = [.ref d] ∧ Dk K H d l s ns c ∧ c + 4 < 2 ^ 30 ∧
  ∀ H' v q, Keep d l H H' → Dk K H' d l s ns (c + 2) → DT K H' v (eF q) → Fx 42 378 q → (0 < lo → 0 < q) → Q v H'
theorem okD__law_number (T : Tx K mg w) : FnOk P w K mg base CX0 4 T.f__law_number T.d__law_number ["_law_deck_here"] (sp_num K (-9)) := by
  have G__law_take := ok__law_take (P := P) (w := w) (base := base) T
  have G__law_frac := ok__law_frac (P := P) (w := w) (base := base) T
  refine T.F__law_number.ok sc__law_number (fun vs H Q E h => ?_) (fun cdv A outer s H vs Q E hr h => ?_)
  · obtain ⟨_, _, _, _, _, rfl, _⟩ := h
    rfl
  obtain ⟨d, l, s, ns, c, rfl, hD, hc, q⟩ := h
  refine ⟨_, (pss_one (ps_ret (pe_call G__law_frac (hr.mono (by first | decide | omega)) (by rfl) T.g__law_frac T.F__law_frac.kp T.b__law_frac .nil pass0 (pa_cons (pe_op op_sub (pe_call G__law_take (hr.mono (by first | decide | omega)) (by rfl) T.g__law_take T.F__law_take.kp T.b__law_take .nil pass0 (pa_cons (pv 0) (pa_cons pe_int pa_nil))) pe_int) (pa_cons (pe_ix ix_list (pe_lst (pa_cons pe_int (pa_cons pe_int (pa_cons pe_int (pa_cons pe_int (pa_cons pe_int (pa_cons pe_int pa_nil))))))) (pe_call G__law_take (hr.mono (by first | decide | omega)) (by rfl) T.g__law_take T.F__law_take.kp T.b__law_take .nil pass0 (pa_cons (pv 0) (pa_cons pe_int pa_nil))) (fun _ _ => rfl)) pa_nil))))), ?_⟩
  refine ⟨.ref d, rfl, d, l, s, ns, c, 19, rfl, hD, by omega, by decide, by decide, fun H1 v k1 D1 v0 v1 => ?_⟩
  refine ⟨v, 9, rfl, rfl, sz_n (by decide : 6 ≤ 1000), fun p hp => ?_⟩
  have pd : p ≠ d := fun z => by
    obtain ⟨_, _, _, h, _⟩ := D1
    rw [z, h] at hp
    cases hp
  have pl : p ≠ l := fun z => by
    obtain ⟨_, _, _, _, h, _⟩ := D1
    rw [z, h] at hp
    cases hp
  refine ⟨.ref d, rfl, d, l, s, ns, c + 1, 6, rfl, D1.new hp, by omega, by decide, by decide, fun H2 e k2 D2 e0 e1 => ?_⟩
  have hp2 := k2 p _ upd_same pd pl
  obtain ⟨x, hx, x0⟩ : ∃ x : Int, atI [V.int 1, V.int 1, V.int 1, V.int 2, V.int 3, V.int 7] e = some (.int x) ∧ (x = 1 ∨ x = 2 ∨ x = 3 ∨ x = 7) := by
    have : e = 0 ∨ e = 1 ∨ e = 2 ∨ e = 3 ∨ e = 4 ∨ e = 5 := by omega
    rcases this with rfl | rfl | rfl | rfl | rfl | rfl
    · exact ⟨1, rfl, .inl rfl⟩
    · exact ⟨1, rfl, .inl rfl⟩
    · exact ⟨1, rfl, .inl rfl⟩
    · exact ⟨2, rfl, .inr (.inl rfl)⟩
    · exact ⟨3, rfl, .inr (.inr (.inl rfl))⟩
    · exact ⟨7, rfl, .inr (.inr (.inr rfl))⟩
  refine ⟨p, _, e, .int x, rfl, rfl, SqL.of hp2, hx, _, x, rfl, by omega, bt_small (by omega), fun H3 v3 s3 f3 => ?_⟩
  exact q H3 v3 _ (k1.trans ((keep_new hp).trans (k2.trans (same_keep s3)))) ((D2.same s3).mono (by omega)) (fr_of f3) (fx42 (by omega) x0) (fun z => absurd z (by decide))
theorem okD__law_size (T : Tx K mg w) : FnOk P w K mg base CX0 4 T.f__law_size T.d__law_size ["_law_deck_here"] (sp_num K 1) := by
  have G__law_take := ok__law_take (P := P) (w := w) (base := base) T
  have G__law_frac := ok__law_frac (P := P) (w := w) (base := base) T
  refine T.F__law_size.ok sc__law_size (fun vs H Q E h => ?_) (fun cdv A outer s H vs Q E hr h => ?_)
  · obtain ⟨_, _, _, _, _, rfl, _⟩ := h
    rfl
  obtain ⟨d, l, s, ns, c, rfl, hD, hc, q⟩ := h
  refine ⟨_, (pss_one (ps_ret (pe_call G__law_frac (hr.mono (by first | decide | omega)) (by rfl) T.g__law_frac T.F__law_frac.kp T.b__law_frac .nil pass0 (pa_cons (pe_op op_add pe_int (pe_call G__law_take (hr.mono (by first | decide | omega)) (by rfl) T.g__law_take T.F__law_take.kp T.b__law_take .nil pass0 (pa_cons (pv 0) (pa_cons pe_int pa_nil)))) (pa_cons (pe_ix ix_list (pe_lst (pa_cons pe_int (pa_cons pe_int (pa_cons pe_int (pa_cons pe_int pa_nil))))) (pe_call G__law_take (hr.mono (by first | decide | omega)) (by rfl) T.g__law_take T.F__law_take.kp T.b__law_take .nil pass0 (pa_cons (pv 0) (pa_cons pe_int pa_nil))) (fun _ _ => rfl)) pa_nil))))), ?_⟩
  refine ⟨.ref d, rfl, d, l, s, ns, c, 9, rfl, hD, by omega, by decide, by decide, fun H1 v k1 D1 v0 v1 => ?_⟩
  refine ⟨1, v, rfl, rfl, sz_n (by decide : 4 ≤ 1000), fun p hp => ?_⟩
  have pd : p ≠ d := fun z => by
    obtain ⟨_, _, _, h, _⟩ := D1
    rw [z, h] at hp
    cases hp
  have pl : p ≠ l := fun z => by
    obtain ⟨_, _, _, _, h, _⟩ := D1
    rw [z, h] at hp
    cases hp
  refine ⟨.ref d, rfl, d, l, s, ns, c + 1, 4, rfl, D1.new hp, by omega, by decide, by decide, fun H2 e k2 D2 e0 e1 => ?_⟩
  have hp2 := k2 p _ upd_same pd pl
  obtain ⟨x, hx, x0⟩ : ∃ x : Int, atI [V.int 1, V.int 1, V.int 2, V.int 3] e = some (.int x) ∧ (x = 1 ∨ x = 2 ∨ x = 3 ∨ x = 7) := by
    have : e = 0 ∨ e = 1 ∨ e = 2 ∨ e = 3 := by omega
    rcases this with rfl | rfl | rfl | rfl
    · exact ⟨1, rfl, .inl rfl⟩
    · exact ⟨1, rfl, .inl rfl⟩
    · exact ⟨2, rfl, .inr (.inl rfl)⟩
    · exact ⟨3, rfl, .inr (.inr (.inl rfl))⟩
  refine ⟨p, _, e, .int x, rfl, rfl, SqL.of hp2, hx, _, x, rfl, by omega, bt_small (by omega), fun H3 v3 s3 f3 => ?_⟩
  exact q H3 v3 _ (k1.trans ((keep_new hp).trans (k2.trans (same_keep s3)))) ((D2.same s3).mono (by omega)) (fr_of f3) (fx42 (by omega) x0) (fun _ => divInt_pos (by omega) (by omega))
def sp_point (K : PySem.W.Frag) : Sp := fun vs H Q _ => ∃ (d l s : Addr) (ns : List Int) (c : Nat), vs = [.ref d] ∧ Dk K H d l s ns c ∧ c + 10 < 2 ^ 30 ∧
  ∀ H' v p, Keep d l H H' → Dk K H' d l s ns (c + 6) → DT K H' v (eP p) → p.F 42 378 → Q v H'
theorem okD__law_point (T : Tx K mg w) : FnOk P w K mg base CX0 5 T.f__law_point T.d__law_point ["_law_deck_here"] (sp_point K) := by
  have G__law_number := okD__law_number (P := P) (w := w) (base := base) T
  refine T.F__law_point.ok sc__law_point (fun vs H Q E h => ?_) (fun cdv A outer s H vs Q E hr h => ?_)
  · obtain ⟨_, _, _, _, _, rfl, _⟩ := h
    rfl
  obtain ⟨d, l, s, ns, c, rfl, hD, hc, q⟩ := h
  refine ⟨_, (pss_one (ps_ret (pe_tup (pa_cons (pe_call G__law_number (hr.mono (by first | decide | omega)) (by rfl) T.g__law_number T.F__law_number.kp T.b__law_number .nil pass0 (pa_cons (pv 0) pa_nil)) (pa_cons (pe_call G__law_number (hr.mono (by first | decide | omega)) (by rfl) T.g__law_number T.F__law_number.kp T.b__law_number .nil pass0 (pa_cons (pv 0) pa_nil)) (pa_cons (pe_call G__law_number (hr.mono (by first | decide | omega)) (by rfl) T.g__law_number T.F__law_number.kp T.b__law_number .nil pass0 (pa_cons (pv 0) pa_nil)) pa_nil)))))), ?_⟩
  refine ⟨.ref d, rfl, d, l, s, ns, c, rfl, hD, by omega, fun H1 v1 q1 k1 D1 f1 x1 _ => ?_⟩
  refine ⟨.ref d, rfl, d, l, s, ns, c + 2, rfl, D1, by omega, fun H2 v2 q2 k2 D2 f2 x2 _ => ?_⟩
  refine ⟨.ref d, rfl, d, l, s, ns, c + 4, rfl, D2, by omega, fun H3 v3 q3 k3 D3 f3 x3 _ => ?_⟩
  have f1 := (f1.tk (k2.tk D1)).tk (k3.tk D2)
  have f2 := f2.tk (k3.tk D2)
  exact ⟨sz_n (by decide : 3 ≤ 1000), fun p hp => q _ _ ⟨q1, q2, q3⟩ (k1.trans (k2.trans (k3.trans (keep_new hp)))) ((D3.new hp).mono (by omega)) (dt3 hp f1 f2 f3) ⟨x1, x2, x3⟩⟩
end

/-! ### data held against data -/
section
variable {P : Program} {w : World} {K : PySem.W.Frag} {mg : Str → Option Value} {base : Heap}
def PD : Nat → PyData → Prop
  | _, .none => True
  | _, .int _ => True
  | _, .str _ => True
  | n + 1, .tuple ds => (∀ d ∈ ds, PD n d) ∧ ds.length ≤ 1000
  | _, _ => False
theorem sq_ty {H : Hp} {a : Addr} {xs : List V} (h : SqT K H a xs) : TyX K H (.ref a) (.type "tuple") := by
  rcases h with (h | ⟨o, h⟩) | ⟨o, its, n, h, c, _⟩
  · exact .base (.tup h)
  · exact .fTuple h
  · exact .kTuple h c
def sp_alike (K : PySem.W.Frag) (n : Nat) : Sp := fun vs H Q _ => ∃ v1 v2 d, vs = [v1, v2] ∧ DT K H v1 d ∧ DT K H v2 d ∧ PD n d ∧ ∀ H', Same H H' → Q (.bl true) H'
def sp_alikeR (K : PySem.W.Frag) : Nat → Sp
  | 0 => fun _ _ _ _ => False
  | n + 1 => sp_alike K n
theorem tw_alike (T : Tx K mg w) : ∀ n, FnOk P w K mg base CX0 n T.f__law_alike T.d__law_alike ["_law_found", "_law_due"] (sp_alikeR K n)
  | 0 => ⟨fun vs H Q E h => h.elim, fun A outer s H args us vs Q E _ _ _ _ h => h.elim⟩
  | n + 1 => by
    have G__law_alike := tw_alike T n
    refine T.F__law_alike.ok sc__law_alike (fun vs H Q E h => ?_) (fun cdv A outer s H vs Q E hr h => ?_)
    · obtain ⟨_, _, _, rfl, _⟩ := h
      rfl
    obtain ⟨v1, v2, d, rfl, h1, h2, pd, k⟩ := h
    refine ⟨_, (pss_cons (ps_if (pt_cmpR op_isN (pv 1) pe_non (nomark _)) (pss_one (ps_ret (pe_cmpR op_isN (pv 0) pe_non (nomark _)))) pss_nil)
      (pss_cons (ps_if (pt_val (pe_callB call_isi (by rfl) T.m_isinstance (by decide +kernel) (pa_cons (pv 1) (pa_cons (pe_bltn (v := .ty "str") (by rfl) T.m_str (by decide +kernel) rfl) pa_nil)))) (pss_one (ps_ret (pe_and (pe_callB call_isi (by rfl) T.m_isinstance (by decide +kernel) (pa_cons (pv 0) (pa_cons (pe_bltn (v := .ty "str") (by rfl) T.m_str (by decide +kernel) rfl) pa_nil))) (pe_one (pe_cmpR op_eq (pv 0) (pv 1) (nomark _)))))) pss_nil)
      (pss_cons (ps_if (pt_val (pe_callB call_isi (by rfl) T.m_isinstance (by decide +kernel) (pa_cons (pv 1) (pa_cons (pe_bltn (v := .ty "int") (by rfl) T.m_int (by decide +kernel) rfl) pa_nil)))) (pss_one (ps_ret (pe_and (pe_callB call_isi (by rfl) T.m_isinstance (by decide +kernel) (pa_cons (pv 0) (pa_cons (pe_bltn (v := .ty "int") (by rfl) T.m_int (by decide +kernel) rfl) pa_nil))) (pe_and (pe_not (pe_callB call_isi (by rfl) T.m_isinstance (by decide +kernel) (pa_cons (pv 0) (pa_cons (pe_bltn (v := .ty "bool") (by rfl) T.m_bool (by decide +kernel) rfl) pa_nil)))) (pe_one (pe_cmpR op_eq (pv 0) (pv 1) (nomark _))))))) pss_nil)
      (pss_cons (ps_if (PW.pt (pw_or (pt_not (pt_val (pe_callB call_isi (by rfl) T.m_isinstance (by decide +kernel) (pa_cons (pv 0) (pa_cons (pe_bltn (v := .ty "tuple") (by rfl) T.m_tuple (by decide +kernel) rfl) pa_nil))))) (pw_or1 (pt_cmpR op_ne (pe_callB call_len_seq (by rfl) T.m_len (by decide +kernel) (pa_cons (pv 0) pa_nil)) (pe_callB call_len_seq (by rfl) T.m_len (by decide +kernel) (pa_cons (pv 1) pa_nil)) (nomark _))))) (pss_one (ps_ret pe_bl)) pss_nil)
      (pss_one (ps_ret (pe_cmpR (op_eqD hr.units) (pe_lc (own := [("_law_k", 2)]) (g := gName 2) (by rfl) sc__law_alike.nd (pi_range1 (by rfl) T.m_range (pa_cons (pe_callB call_len_seq (by rfl) T.m_len (by decide +kernel) (pa_cons (pv 1) pa_nil)) pa_nil)) (blkOk_by (own := [("_law_k", 2)]) (N := nm__law_alike) (sc := defScope s__law_alike) (by decide +kernel)) (fun _ _ _ _ _ => (pg_name (i := 2) sc__law_alike.nd rfl (Or.inl rfl))) (fun _ _ _ _ _ => (pts_one (pt_not (pt_val (pe_call G__law_alike (hr.mono (by first | decide | omega)) (by rfl) T.g__law_alike T.F__law_alike.kp T.b__law_alike .nil pass0 (pa_cons (pe_ix (ix_tupC (K := K) rfl) (pv 0) (pv 2) (fun _ _ => rfl)) (pa_cons (pe_ix (ix_tupC (K := K) rfl) (pv 1) (pv 2) (fun _ _ => rfl)) pa_nil))))))) (fun _ _ _ _ _ => (pv 2))) (pe_lst pa_nil) (nomark _)))))))), ?_⟩
    cases d with
    | none =>
      cases h1
      cases h2
      exact ⟨_, rfl, rfl, _, rfl, iteT ⟨_, rfl, rfl, k H (Same.refl _)⟩⟩
    | str x =>
      cases h1
      cases h2
      refine ⟨_, rfl, rfl, _, rfl, iteF ?_⟩
      refine ⟨_, rfl, _, _, _, _, true, rfl, .ty _, .base (.str x), kit_ty (by decide +kernel), true, rfl, iteT ?_⟩
      refine ⟨_, rfl, _, _, _, _, true, rfl, .ty _, .base (.str x), kit_ty (by decide +kernel), true, rfl, iteT ?_⟩
      exact ⟨_, rfl, _, rfl, rfl, by rw [decide_eq_true rfl]; exact k H (Same.refl _)⟩
    | int x =>
      cases h1
      cases h2
      refine ⟨_, rfl, rfl, _, rfl, iteF ?_⟩
      refine ⟨_, rfl, _, _, _, _, false, rfl, .ty _, .base (.int x), kit_ty (by decide +kernel), false, rfl, iteF ?_⟩
      refine ⟨_, rfl, _, _, _, _, true, rfl, .ty _, .base (.int x), kit_ty (by decide +kernel), true, rfl, iteT ?_⟩
      refine ⟨_, rfl, _, _, _, _, true, rfl, .ty _, .base (.int x), kit_ty (by decide +kernel), true, rfl, iteT ?_⟩
      refine ⟨_, rfl, _, _, _, _, false, rfl, .ty _, .base (.int x), kit_ty (by decide +kernel), false, rfl, true, rfl, iteT ?_⟩
      exact ⟨_, rfl, _, rfl, rfl, by rw [decide_eq_true rfl]; exact k H (Same.refl _)⟩
    | tuple ds =>
      cases n with
      | zero => exact pd.elim
      | succ n =>
        obtain ⟨a1, xs1, rfl, ha1, hs1⟩ := DT.inv h1
        obtain ⟨a2, xs2, rfl, ha2, hs2⟩ := DT.inv h2
        refine ⟨_, rfl, rfl, _, rfl, iteF ?_⟩
        refine ⟨_, rfl, _, _, _, _, false, rfl, .ty _, sq_ty ha2.sq, kit_ty (by decide +kernel), false, rfl, iteF ?_⟩
        refine ⟨_, rfl, _, _, _, _, false, rfl, .ty _, sq_ty ha2.sq, kit_ty (by decide +kernel), false, rfl, iteF ?_⟩
        refine ⟨_, rfl, _, _, _, _, true, rfl, .ty _, sq_ty ha1.sq, kit_ty (by decide +kernel), true, rfl, iteF ?_⟩
        refine ⟨_, rfl, a1, _, rfl, .inr ha1.sq, _, rfl, a2, _, rfl, .inr ha2.sq, rfl, _, rfl, iteNS (by rw [hs1.len, hs2.len]) ?_⟩
        have hn : xs2.length ≤ 1000 := by rw [hs2.len]; exact pd.2
        refine ⟨_, rfl, a2, _, rfl, .inr ha2.sq, _, rfl, by omega, by omega, fun D nD => ?_⟩
        refine lc_range (lo := 0) (n := xs2.length) (fun i H' => Same H H' ∧ H' D = some (.lst [])) ⟨same_upd nD, upd_same⟩ (fun i H' hi p => ?_) (fun H' p => ?_)
        · obtain ⟨S, hD⟩ := p
          have hi1 : i < ds.length := by rw [← hs2.len]; exact hi
          have ed := List.getElem?_eq_getElem hi1
          refine ⟨rfl, _, rfl, _, rfl, ?_⟩
          rw [Int.zero_add]
          refine rx_dt (h1.same S) ed fun x hx => ?_
          refine ⟨_, rfl, _, rfl, rx_dt (h2.same S) ed fun y hy => ?_⟩
          exact ⟨_, _, _, rfl, hx, hy, pd.1 _ (List.getElem_mem hi1), fun H2 S2 => ⟨true, rfl, iteF ⟨S.trans S2, S2 _ _ hD⟩⟩⟩
        · obtain ⟨S, hD⟩ := p
          refine ⟨Nat.zero_le _, fun p3 h3 => ?_⟩
          exact ⟨_, _, Dp.lst (SqL.of (same_upd h3 _ _ hD)) DpAll.nil, Dp.lst (SqL.of upd_same) DpAll.nil, rfl, rfl, k _ (S.trans (same_upd h3))⟩
    | bool b => cases n <;> exact False.elim pd
    | list ds => cases n <;> exact False.elim pd
    | dict ds => cases n <;> exact False.elim pd
/-! constants of three pairs -/
def PIt (te : TE) (σ : L2.St) (a : Int) : Prop := ∀ (H : Hp) (R : VK), R (.int a) H → te σ H R
theorem pi_c {σ : L2.St} {a : Int} : PIt (tC (.int a)) σ a := fun _ _ q => q
theorem pi_neg {σ : L2.St} {a : Int} : PIt (tUn (rU fun i => .int (-i)) (tC (.int a))) σ (-a) := fun _ _ q => ⟨a, rfl, q⟩
theorem tup2i {te1 te2 : TE} {σ : L2.St} {H : Hp} {Q : VK} {a b : Int} (h1 : PIt te1 σ a) (h2 : PIt te2 σ b) (k : ∀ H' v, Same H H' → DT K H' v (.tuple [.int a, .int b]) → Q v H') : tTup (tCons te1 (tCons te2 tNil)) σ H Q :=
  h1 _ _ (h2 _ _ ⟨sz_n (by decide : 2 ≤ 1000), fun p hp => k _ _ (same_upd hp) (dt2 hp (.int _) (.int _))⟩)
theorem tup3i {te11 te12 te21 te22 te31 te32 : TE} {σ : L2.St} {H : Hp} {Q : VK} {a b c d e f : Int} (h11 : PIt te11 σ a) (h12 : PIt te12 σ b) (h21 : PIt te21 σ c) (h22 : PIt te22 σ d) (h31 : PIt te31 σ e) (h32 : PIt te32 σ f)
    (k : ∀ H' v, Same H H' → DT K H' v (.tuple [.tuple [.int a, .int b], .tuple [.int c, .int d], .tuple [.int e, .int f]]) → Q v H') :
    tTup (tCons (tTup (tCons te11 (tCons te12 tNil))) (tCons (tTup (tCons te21 (tCons te22 tNil))) (tCons (tTup (tCons te31 (tCons te32 tNil))) tNil))) σ H Q := by
  refine rd_tup (rd_cons (tup2i (K := K) h11 h12 fun H1 v1 S1 z1 => rd_cons (tup2i (K := K) h21 h22 fun H2 v2 S2 z2 => rd_cons (tup2i (K := K) h31 h32 fun H3 v3 S3 z3 => ?_))))
  exact ⟨sz_n (by decide : 3 ≤ 1000), fun p hp => k _ _ (((S1.trans S2).trans S3).trans (same_upd hp)) (dt3 hp (z1.same (S2.trans S3)) (z2.same S3) z3)⟩
def sp_base (K : PySem.W.Frag) : Sp := fun vs H Q _ => ∃ (d l s : Addr) (ns : List Int) (c : Nat), vs = [.ref d] ∧ Dk K H d l s ns c ∧ c + 30 < 2 ^ 30 ∧
  ∀ H' v f, Keep d l H H' → Dk K H' d l s ns (c + 13) → DT K H' v (eForm f) → LeafF f → Q v H'
theorem fx_le {p s : Rat} (h : 0 < s) : p < p + s := by grind
theorem okD__law_base (T : Tx K mg w) : FnOk P w K mg base CX0 6 T.f__law_base T.d__law_base ["_law_deck_here"] (sp_base K) := by
  have G__law_take := ok__law_take (P := P) (w := w) (base := base) T
  have G__law_point := okD__law_point (P := P) (w := w) (base := base) T
  have G__law_size := okD__law_size (P := P) (w := w) (base := base) T
  have G__law_number := okD__law_number (P := P) (w := w) (base := base) T
  have G__law_added := okD__law_added (P := P) (w := w) (base := base) T
  refine T.F__law_base.ok sc__law_base (fun vs H Q E h => ?_) (fun cdv A outer s H vs Q E hr h => ?_)
  · obtain ⟨_, _, _, _, _, rfl, _⟩ := h
    rfl
  obtain ⟨d, l, s, ns, c, rfl, hD, hc, q⟩ := h
  refine ⟨_, (pss_cons (ps_set (i := 1) sc__law_base.nd rfl (Or.inl rfl) (pe_call G__law_take (hr.mono (by first | decide | omega)) (by rfl) T.g__law_take T.F__law_take.kp T.b__law_take .nil pass0 (pa_cons (pv 0) (pa_cons pe_int pa_nil))))
      (pss_cons (ps_set (i := 2) sc__law_base.nd rfl (Or.inl rfl) (pe_call G__law_point (hr.mono (by first | decide | omega)) (by rfl) T.g__law_point T.F__law_point.kp T.b__law_point .nil pass0 (pa_cons (pv 0) pa_nil)))
      (pss_cons (ps_if (pt_cmpR op_eq (pv 1) pe_int (nomark _)) (pss_one (ps_ret (pe_tup (pa_cons pe_str (pa_cons (pv 2) (pa_cons (pe_call G__law_added (hr.mono (by first | decide | omega)) (by rfl) T.g__law_added T.F__law_added.kp T.b__law_added .nil pass0 (pa_cons (pv 2) (pa_cons (pe_tup (pa_cons (pe_call G__law_size (hr.mono (by first | decide | omega)) (by rfl) T.g__law_size T.F__law_size.kp T.b__law_size .nil pass0 (pa_cons (pv 0) pa_nil)) (pa_cons (pe_call G__law_size (hr.mono (by first | decide | omega)) (by rfl) T.g__law_size T.F__law_size.kp T.b__law_size .nil pass0 (pa_cons (pv 0) pa_nil)) (pa_cons (pe_call G__law_size (hr.mono (by first | decide | omega)) (by rfl) T.g__law_size T.F__law_size.kp T.b__law_size .nil pass0 (pa_cons (pv 0) pa_nil)) pa_nil)))) pa_nil))) pa_nil)))))) pss_nil)
      (pss_cons (ps_if (pt_cmpR op_eq (pv 1) pe_int (nomark _)) (pss_one (ps_ret (pe_tup (pa_cons pe_str (pa_cons (pv 2) (pa_cons (pe_call G__law_size (hr.mono (by first | decide | omega)) (by rfl) T.g__law_size T.F__law_size.kp T.b__law_size .nil pass0 (pa_cons (pv 0) pa_nil)) pa_nil)))))) pss_nil)
      (pss_cons (ps_if (pt_cmpR (op_eqD hr.units) (pv 2) (pe_tup (pa_cons (pe_tup (pa_cons pe_int (pa_cons pe_int pa_nil))) (pa_cons (pe_tup (pa_cons pe_int (pa_cons pe_int pa_nil))) (pa_cons (pe_tup (pa_cons pe_int (pa_cons pe_int pa_nil))) pa_nil)))) (nomark _)) (pss_one (ps_set (i := 2) sc__law_base.nd rfl (Or.inl rfl) (pe_tup (pa_cons (pe_tup (pa_cons pe_int (pa_cons pe_int pa_nil))) (pa_cons (pe_tup (pa_cons (pe_un un_neg pe_int) (pa_cons pe_int pa_nil))) (pa_cons (pe_tup (pa_cons pe_int (pa_cons pe_int pa_nil))) pa_nil)))))) pss_nil)
      (pss_one (ps_ret (pe_tup (pa_cons pe_str (pa_cons (pv 2) (pa_cons (pe_call G__law_number (hr.mono (by first | decide | omega)) (by rfl) T.g__law_number T.F__law_number.kp T.b__law_number .nil pass0 (pa_cons (pv 0) pa_nil)) pa_nil))))))))))), ?_⟩
  rw [show L2.start nm__law_base [.ref d] = [some (.ref d), none, none] from rfl]
  refine ⟨.ref d, rfl, d, l, s, ns, c, 3, rfl, hD, by omega, by decide, by decide, fun H1 kd k1 D1 kd0 kd1 => ?_⟩
  dsimp only [gName, List.set_cons_succ, List.set_cons_zero]
  refine ⟨.ref d, rfl, d, l, s, ns, c + 1, rfl, D1, by omega, fun H2 vp p k2 D2 zp fp => ?_⟩
  dsimp only [gName, List.set_cons_succ, List.set_cons_zero]
  have k12 := k1.trans k2
  refine ⟨_, rfl, rfl, _, rfl, ite2 (fun _ => ?_) (fun _ => ?_)⟩
  · refine ⟨_, rfl, _, rfl, ?_⟩
    refine ⟨.ref d, rfl, d, l, s, ns, c + 7, rfl, D2, by omega, fun H3 v3 s3 k3 D3 z3 f3 p3 => ?_⟩
    refine ⟨.ref d, rfl, d, l, s, ns, c + 9, rfl, D3, by omega, fun H4 v4 s4 k4 D4 z4 f4 p4 => ?_⟩
    refine ⟨.ref d, rfl, d, l, s, ns, c + 11, rfl, D4, by omega, fun H5 v5 s5 k5 D5 z5 f5 p5 => ?_⟩
    have t35 := (k4.tk D3).trans (k5.tk D4)
    refine ⟨sz_n (by decide : 3 ≤ 1000), fun r hr' => ?_⟩
    have zs := dt3 hr' (z3.tk t35) (z4.tk (k5.tk D4)) z5
    have zp5 := ((zp.tk (k3.tk D2)).tk t35).tk (tk_new hr' (o := .tup [v3, v4, v5]))
    have D6 := D5.new hr' (o := .tup [v3, v4, v5])
    have k6 := keep_new (d := d) (l := l) hr' (o := .tup [v3, v4, v5])
    generalize upd H5 r (.tup [v3, v4, v5]) = H6 at zs zp5 D6 k6 ⊢
    have fs : P3.F 42 378 ⟨s3, s4, s5⟩ := ⟨f3, f4, f5⟩
    refine ⟨_, _, p, ⟨s3, s4, s5⟩, rfl, zp5, zs, fp.B (by decide) (by exact Nat.lt_of_lt_of_le (by decide : 42 < 2 ^ 10) (Nat.pow_le_pow_right (by decide) (by decide))) (by exact Nat.lt_of_lt_of_le (by decide : 378 < 2 ^ 10) (Nat.pow_le_pow_right (by decide) (by decide))), fs.B (by decide) (by exact Nat.lt_of_lt_of_le (by decide : 42 < 2 ^ 10) (Nat.pow_le_pow_right (by decide) (by decide))) (by exact Nat.lt_of_lt_of_le (by decide : 378 < 2 ^ 10) (Nat.pow_le_pow_right (by decide) (by decide))), fun H7 v7 S7 z7 => ?_⟩
    refine ⟨sz_n (by decide : 3 ≤ 1000), fun r2 hr2 => ?_⟩
    refine q _ _ (.box p (p.add ⟨s3, s4, s5⟩)) (k12.trans (k3.trans (k4.trans (k5.trans (k6.trans ((same_keep S7).trans (keep_new hr2))))))) (((D6.same S7).new hr2).mono (by omega)) (dt3 hr2 (.str _) (zp5.same S7) z7) ⟨fp, (fp.add (by decide) fs).mono (by decide), fx_le (p3 (by decide)), fx_le (p4 (by decide)), fx_le (p5 (by decide))⟩
  refine ⟨_, rfl, rfl, _, rfl, ite2 (fun _ => ?_) (fun _ => ?_)⟩
  · refine ⟨_, rfl, .ref d, rfl, d, l, s, ns, c + 7, rfl, D2, by omega, fun H3 v3 s3 k3 D3 z3 f3 p3 => ?_⟩
    exact ⟨sz_n (by decide : 3 ≤ 1000), fun r2 hr2 => q _ _ (.ball p s3) (k12.trans (k3.trans (keep_new hr2))) ((D3.new hr2).mono (by omega)) (dt3 hr2 (.str _) (zp.tk (k3.tk D2)) z3) ⟨fp, f3, p3 (by decide)⟩⟩
  · refine ⟨_, rfl, tup3i (K := K) pi_c pi_c pi_c pi_c pi_c pi_c fun H3 v3 S3 z3 => ?_⟩
    refine ⟨_, _, (zp.same S3).dp, z3.dp, rfl, rfl, _, rfl, ite2 (fun _ => ?_) (fun e => ?_)⟩
    · refine tup3i (K := K) pi_c pi_c pi_neg pi_c pi_c pi_c fun H4 v4 S4 z4 => ?_
      dsimp only [gName, List.set_cons_succ, List.set_cons_zero]
      have z4 : DT K H4 v4 (eP ⟨0, -2, 0⟩) := z4
      have D4 := (D2.same S3).same S4
      refine ⟨_, rfl, .ref d, rfl, d, l, s, ns, c + 7, rfl, D4, by omega, fun H5 v5 s5 k5 D5 z5 f5 p5 => ?_⟩
      exact ⟨sz_n (by decide : 3 ≤ 1000), fun r2 hr2 => q _ _ (.half ⟨0, -2, 0⟩ s5) (k12.trans ((same_keep (S3.trans S4)).trans (k5.trans (keep_new hr2)))) ((D5.new hr2).mono (by omega)) (dt3 hr2 (.str _) (z4.tk (k5.tk D4)) z5) ⟨⟨Fx.zero, ⟨-84, rfl, by decide⟩, Fx.zero⟩, f5, fun h => absurd h.2.1 (by decide)⟩⟩
    · have D3 := D2.same S3
      have nz : ¬ (p.x = 0 ∧ p.y = 0 ∧ p.z = 0) := fun ⟨e1, e2, e3⟩ => e (by
        obtain ⟨x, y, z⟩ := p
        dsimp only at e1 e2 e3
        subst e1 e2 e3
        rw [show (PyData.tuple [.tuple [.int 0, .int 1], .tuple [.int 0, .int 1], .tuple [.int 0, .int 1]]) = eP ⟨0, 0, 0⟩ from rfl, SeqAt.eqv_refl]
        rfl)
      refine ⟨_, rfl, .ref d, rfl, d, l, s, ns, c + 7, rfl, D3, by omega, fun H5 v5 s5 k5 D5 z5 f5 p5 => ?_⟩
      exact ⟨sz_n (by decide : 3 ≤ 1000), fun r2 hr2 => q _ _ (.half p s5) (k12.trans ((same_keep S3).trans (k5.trans (keep_new hr2)))) ((D5.new hr2).mono (by omega)) (dt3 hr2 (.str _) ((zp.same S3).tk (k5.tk D3)) z5) ⟨fp, f5, nz⟩⟩
end

/-! ### more that the laws of the second family share -/
section
variable {P : Program} {w : World} {K : PySem.W.Frag} {mg : Str → Option Value} {base : Heap}
theorem pd_eF (n : Nat) (q : Rat) : PD (n + 1) (eF q) := ⟨fun d hd => by
  simp only [List.mem_cons, List.not_mem_nil, or_false] at hd
  rcases hd with rfl | rfl <;> cases n <;> trivial, by show 2 ≤ 1000; decide⟩
theorem pd_tup {n : Nat} {ds : List PyData} (h : ∀ d ∈ ds, PD n d) (hl : ds.length ≤ 1000) : PD (n + 1) (.tuple ds) := ⟨h, hl⟩
theorem pd_str (n : Nat) (x : Str) : PD n (.str x) := by cases n <;> trivial
theorem pd_int (n : Nat) (x : Int) : PD n (.int x) := by cases n <;> trivial
theorem pd_eP (n : Nat) (p : P3) : PD (n + 2) (eP p) := pd_tup (fun d hd => by
  simp only [List.mem_cons, List.not_mem_nil, or_false] at hd
  rcases hd with rfl | rfl | rfl <;> exact pd_eF _ _) (by show 3 ≤ 1000; decide)
theorem pd_eT (n : Nat) (t : T3) : PD (n + 3) (eT t) := pd_tup (fun d hd => by
  simp only [List.mem_cons, List.not_mem_nil, or_false] at hd
  rcases hd with rfl | rfl | rfl <;> exact pd_eP _ _) (by show 3 ≤ 1000; decide)
theorem pd_eForm (n : Nat) (f : Form) : PD (n + 3) (eForm f) := by
  cases f <;> refine pd_tup (fun d hd => ?_) (by first | (show 3 ≤ 1000; decide) | (show 5 ≤ 1000; decide)) <;> simp only [List.mem_cons, List.not_mem_nil, or_false] at hd
  · rcases hd with rfl | rfl | rfl <;> first | exact pd_str _ _ | exact pd_eP _ _
  · rcases hd with rfl | rfl | rfl <;> first | exact pd_str _ _ | exact pd_eP _ _ | exact pd_eF _ _
  · rcases hd with rfl | rfl | rfl <;> first | exact pd_str _ _ | exact pd_eP _ _ | exact pd_eF _ _
  · rcases hd with rfl | rfl | rfl <;> first | exact pd_str _ _ | exact pd_int _ _
  · rcases hd with rfl | rfl | rfl <;> first | exact pd_str _ _ | exact pd_int _ _ | exact pd_eP _ _
  · rcases hd with rfl | rfl | rfl | rfl | rfl <;> first | exact pd_str _ _ | exact pd_int _ _ | exact pd_eF _ _
theorem pd_eLeaf (n : Nat) (l : Leaf) : PD (n + 4) (eLeaf l) := pd_tup (fun d hd => by
  simp only [List.mem_cons, List.not_mem_nil, or_false] at hd
  rcases hd with rfl | rfl | rfl | rfl <;> first | exact pd_str _ _ | exact pd_eForm _ _ | exact pd_eT _ _ | exact pd_eP _ _) (by show 4 ≤ 1000; decide)
theorem leaf_lay {bs : List Body} {i : Nat} {b : Body} (eb : bs[i]? = some b) (hf : LeafF b.form) (n : Nat) (t : T3) (s : P3) : layL bs (n + 1) i t s = [⟨b.name, b.form, t, s⟩] ∧ layN bs (n + 1) i = 1 ∧ (∀ k, layS bs (n + 1) i k = [.int (k : Int)]) ∧ LayOk bs (n + 1) i t s := by
  obtain ⟨nm, fm⟩ := b
  unfold layL layN layS LayOk
  rw [eb]
  cases fm <;> first | exact hf.elim | exact ⟨rfl, rfl, fun _ => rfl, _, rfl, trivial⟩
theorem filter_one {ts : List Thing} {p : Thing → Bool} {th : Thing} (h1 : th ∈ ts) (h2 : p th = true) (h : ∀ t ∈ ts, p t = true → t = th) : ∃ rest, ts.filter p = th :: rest := by
  cases e : ts.filter p with
  | nil =>
    have : th ∈ ts.filter p := List.mem_filter.mpr ⟨h1, h2⟩
    rw [e] at this; cases this
  | cons t rest =>
    have : t ∈ ts.filter p := by rw [e]; exact List.mem_cons_self
    obtain ⟨a, b⟩ := List.mem_filter.mp this
    exact ⟨rest, by rw [h t a b]⟩
def nmA (k : Nat) : Str := ⟨#[97 + k]⟩
theorem DTs.take {H : Hp} : ∀ {vs : List V} {ds : List PyData} (n : Nat), DTs K H vs ds → DTs K H (vs.take n) (ds.take n)
  | _, _, 0, _ => by rw [List.take_zero, List.take_zero]; exact .nil
  | _, _, _ + 1, .nil => .nil
  | _, _, n + 1, .cons h hs => .cons h (DTs.take n hs)
theorem DTs.drop {H : Hp} : ∀ {vs : List V} {ds : List PyData} (n : Nat), DTs K H vs ds → DTs K H (vs.drop n) (ds.drop n)
  | _, _, 0, h => h
  | _, _, _ + 1, .nil => .nil
  | _, _, n + 1, .cons h hs => DTs.drop n hs
def sp_law (K : PySem.W.Frag) : Sp := fun vs H Q _ => ∃ (a : Addr) (ns : List Int), vs = [.ref a] ∧ SqL K H a (ns.map V.int) ∧ ns.length ≤ 63 ∧ ∀ H', Q (.bl true) H'
theorem nmA_inj {i j : Nat} (h : nmA i = nmA j) : i = j := by
  unfold nmA at h
  injection h with h
  have := congrArg Array.toList h
  injection this
  omega
theorem named_first {bs : List Body} {ts : List Thing} {th : Thing} {b : Body} (hN : ∀ j b, bs[j]? = some b → b.name = nmA j) (hi : ∀ t ∈ ts, t.i < bs.length) (inj : ∀ t ∈ ts, ∀ u ∈ ts, t.i = u.i → t = u) (hth : th ∈ ts) (eb : bs[th.i]? = some b) : ∃ rest, ts.filter (named bs b.name) = th :: rest := by
  refine filter_one hth ?_ fun u hu pu => ?_
  · unfold named; rw [eb]; exact decide_eq_true rfl
  · have hui := hi u hu
    have eu : bs[u.i]? = some bs[u.i] := List.getElem?_eq_getElem hui
    unfold named at pu
    rw [eu] at pu
    have pu := of_decide_eq_true pu
    rw [hN u.i _ eu, hN th.i _ eb] at pu
    exact inj u hu th hth (nmA_inj pu)
theorem layS_kd (bs : List Body) : ∀ (f i n : Nat) (d : PyData), d ∈ layS bs f i n → (∃ z, d = .int z) ∨ (∃ z, d = .str z)
  | 0, _, _, d, h => by cases h
  | f + 1, i, n, d, h => by
    unfold layS at h
    cases e : bs[i]? with
    | none => rw [e] at h; cases h
    | some b =>
      rw [e] at h
      obtain ⟨nm, fm⟩ := b
      cases fm with
      | two wd j k =>
        rcases List.mem_append.mp h with h | h
        · exact layS_kd bs f j _ d h
        · rcases List.mem_append.mp h with h | h
          · exact layS_kd bs f k _ d h
          · exact .inr ⟨wd, List.mem_singleton.mp h⟩
      | slide j w => exact layS_kd bs f j _ d h
      | turn j ax c sn => exact layS_kd bs f j _ d h
      | box _ _ => exact .inl ⟨_, List.mem_singleton.mp h⟩
      | ball _ _ => exact .inl ⟨_, List.mem_singleton.mp h⟩
      | half _ _ => exact .inl ⟨_, List.mem_singleton.mp h⟩
theorem pd_laid {bs : List Body} {n : Nat} {th : Thing} {m : Rat} (hN : layN bs n th.i ≤ 1000) (hS : (layS bs n th.i 0).length ≤ 1000) : PD 9 (.tuple (laidD bs n th m)) := by
  refine pd_tup (fun d hd => ?_) (by show 2 ≤ 1000; decide)
  unfold laidD at hd
  simp only [List.mem_cons, List.not_mem_nil, or_false] at hd
  rcases hd with rfl | rfl
  · refine pd_tup (fun d hd => ?_) (by rw [List.length_map, layL_len]; exact hN)
    obtain ⟨x, _, rfl⟩ := List.mem_map.mp hd
    exact pd_eLeaf _ _
  · refine pd_tup (fun d hd => ?_) hS
    rcases layS_kd bs n th.i 0 d hd with ⟨z, rfl⟩ | ⟨z, rfl⟩
    · exact pd_int _ _
    · exact pd_str _ _
end

/-! ### single bodies laid -/
section
variable {P : Program} {w : World} {K : PySem.W.Frag} {mg : Str → Option Value} {base : Heap}
def OneOf (bs : List Body) (ts : List Thing) : Prop := (∀ t ∈ ts, t.i < bs.length) ∧ ts.length ≤ 1000 ∧ (∀ t ∈ ts, ∀ u ∈ ts, t.i = u.i → t = u)
def sp_right (K : PySem.W.Frag) : Sp := fun vs H Q _ => ∃ v1 v2 v3 bs ts la lo th b rest m, vs = [v1, v2, v3] ∧ DT K H v1 (eScene bs ts la lo) ∧ DT K H v2 (eThing th) ∧ DT K H v3 (eF m) ∧ bs[th.i]? = some b ∧ LeafF b.form ∧ (∀ t ∈ ts, t.i < bs.length) ∧ ts.length ≤ 1000 ∧ ts.filter (named bs b.name) = th :: rest ∧ th.move.B 4000 ∧ Rb 4000 m ∧
  ∀ H', Same H H' → Q (.bl true) H'
theorem ok__law_right (T : Tx K mg w) : FnOk P w K mg base CX0 21 T.f__law_right T.d__law_right ["_law_scene", "_law_thing", "_law_moment"] (sp_right K) := by
  have G_laid_out := okD_laid_out (P := P) (w := w) (base := base) T
  have G__law_alike := tw_alike (P := P) (w := w) (base := base) T 10
  have G__law_many := okD__law_many (P := P) (w := w) (base := base) T
  refine T.F__law_right.ok sc__law_right (fun vs H Q E h => ?_) (fun cdv A outer s H vs Q E hr h => ?_)
  · obtain ⟨_, _, _, _, _, _, _, _, _, _, _, rfl, _⟩ := h
    rfl
  obtain ⟨v1, v2, v3, bs, ts, la, lo, th, b, rest, m, rfl, h1, h2, h3, eb, hf, hi, hn, ef, bm, bk, k⟩ := h
  refine ⟨_, (pss_cons (ps_asg (pe_tup (pa_cons (pe_tup (pa_cons pe_int (pa_cons pe_int pa_nil))) (pa_cons (pe_tup (pa_cons pe_int (pa_cons pe_int pa_nil))) pa_nil))) (pg_tup (by rfl) (pgs_cons (pg_name (i := 3) sc__law_right.nd rfl (Or.inl rfl)) (pgs_cons (pg_name (i := 4) sc__law_right.nd rfl (Or.inl rfl)) pgs_nil))))
      (pss_cons (ps_set (i := 5) sc__law_right.nd rfl (Or.inl rfl) (pe_tup (pa_cons (pe_tup (pa_cons (pv 4) (pa_cons (pv 3) (pa_cons (pv 3) pa_nil)))) (pa_cons (pe_tup (pa_cons (pv 3) (pa_cons (pv 4) (pa_cons (pv 3) pa_nil)))) (pa_cons (pe_tup (pa_cons (pv 3) (pa_cons (pv 3) (pa_cons (pv 4) pa_nil)))) pa_nil)))))
      (pss_cons (ps_asg (pe_ix ix_tup (pe_ix ix_tup (pv 0) pe_int (fun _ _ => rfl)) (pe_ix ix_tup (pv 1) pe_int (fun _ _ => rfl)) (fun _ _ => rfl)) (pg_tup (by rfl) (pgs_cons (pg_name (i := 6) sc__law_right.nd rfl (Or.inl rfl)) (pgs_cons (pg_name (i := 7) sc__law_right.nd rfl (Or.inl rfl)) pgs_nil))))
      (pss_cons (ps_set (i := 8) sc__law_right.nd rfl (Or.inl rfl) (pe_tup (pa_cons (pe_tup (pa_cons (pe_tup (pa_cons (pv 6) (pa_cons (pv 7) (pa_cons (pv 5) (pa_cons (pe_call G__law_many (hr.mono (by first | decide | omega)) (by rfl) T.g__law_many T.F__law_many.kp T.b__law_many .nil pass0 (pa_cons (pe_ix ix_tup (pv 1) pe_int (fun _ _ => rfl)) (pa_cons (pv 2) pa_nil))) pa_nil))))) pa_nil)) (pa_cons (pe_tup (pa_cons pe_int pa_nil)) pa_nil))))
      (pss_one (ps_ret (pe_call G__law_alike (hr.mono (by first | decide | omega)) (by rfl) T.g__law_alike T.F__law_alike.kp T.b__law_alike .nil pass0 (pa_cons (pe_call G_laid_out (hr.mono (by first | decide | omega)) (by rfl) T.g_laid_out T.F_laid_out.kp T.b_laid_out .nil pass0 (pa_cons (pv 0) (pa_cons (pv 6) (pa_cons (pv 2) pa_nil)))) (pa_cons (pv 8) pa_nil))))))))), ?_⟩
  rw [show L2.start nm__law_right [v1, v2, v3] = [some v1, some v2, some v3, none, none, none, none, none, none] from rfl]
  refine rd_asg (rd_tup (rd_cons (tup2i (K := K) pi_c pi_c fun H1 x1 S1 z1 => rd_cons (tup2i (K := K) pi_c pi_c fun H2 x2 S2 z2 => ⟨sz_n (by decide : 2 ≤ 1000), fun p hp => ⟨p, _, rfl, SqT.of upd_same, rfl, _, _, rfl, _, _, rfl, rfl, ?_⟩⟩))))
  dsimp only [gName, List.set_cons_succ, List.set_cons_zero]
  have S3 := (S1.trans S2).trans (same_upd hp (o := .tup [x1, x2]))
  have z1 : DT K _ x1 (eF 0) := (z1.same S2).same (same_upd hp (o := .tup [x1, x2]))
  have z2 : DT K _ x2 (eF 1) := z2.same (same_upd hp (o := .tup [x1, x2]))
  generalize upd H2 p (.tup [x1, x2]) = H3 at S3 z1 z2 ⊢
  refine rd_asg (rows3 (K := K) (d11 := eF 1) (d12 := eF 0) (d13 := eF 0) (d21 := eF 0) (d22 := eF 1) (d23 := eF 0) (d31 := eF 0) (d32 := eF 0) (d33 := eF 1) (fun H' S te d hh R q => ?_) (fun H4 v4 S4 z4 => ?_))
  · rcases hh with ⟨rfl, rfl⟩ | ⟨rfl, rfl⟩ | ⟨rfl, rfl⟩ | ⟨rfl, rfl⟩ | ⟨rfl, rfl⟩ | ⟨rfl, rfl⟩ | ⟨rfl, rfl⟩ | ⟨rfl, rfl⟩ | ⟨rfl, rfl⟩ <;>
      first | exact ⟨_, rfl, q _ (z1.same S)⟩ | exact ⟨_, rfl, q _ (z2.same S)⟩
  dsimp only [gName, List.set_cons_succ, List.set_cons_zero]
  have S34 := S3.trans S4
  have z4 : DT K H4 v4 (eT I3) := z4
  have h1 := h1.same S34
  have h2 := h2.same S34
  have h3 := h3.same S34
  refine ⟨_, rfl, rd_c (rx_dt (j := 0) h1 rfl fun y hy => ?_)⟩
  refine ⟨_, rfl, rd_c (rx_dt (j := 0) h2 rfl fun z hz => ?_)⟩
  cases hz.int_inv
  refine get_body hy eb fun u hu => ?_
  obtain ⟨ay, vf, rfl, hay, hvf⟩ := body_inv hu
  refine ⟨ay, _, rfl, hay, rfl, _, _, rfl, _, _, rfl, rfl, ?_⟩
  dsimp only [gName, List.set_cons_succ, List.set_cons_zero]
  obtain ⟨eL, eN, eS, okL⟩ := leaf_lay eb hf 11 I3 (th.move.scale m)
  refine ⟨_, rfl, _, rfl, _, rfl, _, rfl, rd_c (rx_dt (j := 3) h2 rfl fun u hu => ?_)⟩
  refine ⟨_, rfl, _, _, _, _, rfl, hu, h3, bm, bk, fun H5 v5 S5 z5 => ?_⟩
  refine ⟨sz_n (by decide : 4 ≤ 1000), fun p1 hp1 => ?_⟩
  have c1 : DT K (upd H5 p1 (.tup [.str b.name, vf, v4, v5])) (.ref p1) (eLeaf ⟨b.name, b.form, I3, th.move.scale m⟩) := dt_new hp1 (.cons (.str _) (.cons (hvf.same S5) (.cons (z4.same S5) (.cons z5 .nil))))
  have S6 := S5.trans (same_upd hp1 (o := .tup [.str b.name, vf, v4, v5]))
  generalize upd H5 p1 (.tup [.str b.name, vf, v4, v5]) = H6 at c1 S6 ⊢
  refine ⟨sz_n (by decide : 1 ≤ 1000), fun p2 hp2 => ?_⟩
  have c2 := dt_new hp2 (.cons c1 .nil)
  have S7 := S6.trans (same_upd hp2 (o := .tup [.ref p1]))
  generalize upd H6 p2 (.tup [.ref p1]) = H7 at c2 S7 ⊢
  refine ⟨sz_n (by decide : 1 ≤ 1000), fun p3 hp3 => ?_⟩
  have c3 : DT K (upd H7 p3 (.tup [.int 0])) (.ref p3) (.tuple [.int 0]) := dt_new hp3 (.cons (.int 0) .nil)
  have c2 := c2.same (same_upd hp3 (o := .tup [.int 0]))
  have S8 := S7.trans (same_upd hp3 (o := .tup [.int 0]))
  generalize upd H7 p3 (.tup [.int 0]) = H8 at c2 c3 S8 ⊢
  refine ⟨sz_n (by decide : 2 ≤ 1000), fun p4 hp4 => ?_⟩
  have c4 := dt2 hp4 c2 c3
  have S9 := S8.trans (same_upd hp4 (o := .tup [.ref p2, .ref p3]))
  generalize upd H8 p4 (.tup [.ref p2, .ref p3]) = H9 at c4 S9 ⊢
  dsimp only [gName, List.set_cons_succ, List.set_cons_zero]
  refine ⟨_, rfl, _, rfl, _, rfl, _, _, b.name, bs, ts, la, lo, th, rest, m, rfl, h1.same S9, h3.same S9, hi, hn, ef, ⟨okL, by rw [eN]; decide, by rw [eS]; show 1 ≤ 1000; decide, bm, bk⟩, fun H10 v10 S10 z10 => ?_⟩
  have z10 : DT K H10 v10 (.tuple [.tuple [eLeaf ⟨b.name, b.form, I3, th.move.scale m⟩], .tuple [.int 0]]) := by
    unfold laidD at z10
    rw [eL, eS] at z10
    exact z10
  refine ⟨_, rfl, _, _, _, rfl, z10, c4.same S10, ?_, fun H11 S11 => k _ (S34.trans (S9.trans (S10.trans S11)))⟩
  refine pd_tup (fun d hd => ?_) (by show 2 ≤ 1000; decide)
  simp only [List.mem_cons, List.not_mem_nil, or_false] at hd
  rcases hd with rfl | rfl
  · refine pd_tup (fun d hd => ?_) (by show 1 ≤ 1000; decide)
    simp only [List.mem_cons, List.not_mem_nil, or_false] at hd
    subst hd
    exact pd_eLeaf _ _
  · refine pd_tup (fun d hd => ?_) (by show 1 ≤ 1000; decide)
    simp only [List.mem_cons, List.not_mem_nil, or_false] at hd
    subst hd
    exact pd_int _ _
theorem abc_at {k : Nat} (h : k < 6) : atI ("abcdef" : Str).cps.toList ((k : Nat) : Int) = some (97 + k) := by
  match k, h with
  | 0, _ => decide +kernel
  | 1, _ => decide +kernel
  | 2, _ => decide +kernel
  | 3, _ => decide +kernel
  | 4, _ => decide +kernel
  | 5, _ => decide +kernel
def BodiesA (bs : List Body) : Prop := ∀ j b, bs[j]? = some b → b.name = nmA j ∧ LeafF b.form
def ThingsA (k : Nat) (ts : List Thing) : Prop := (∀ t ∈ ts, t.i < k ∧ t.move.F 42 378) ∧ ∀ t ∈ ts, ∀ u ∈ ts, t.i = u.i → t = u
theorem mem_ins {ts : List Thing} {t x : Thing} {n : Nat} (h : x ∈ ts.take n ++ [t] ++ ts.drop n) : x = t ∨ x ∈ ts := by
  simp only [List.mem_append, List.mem_singleton] at h
  rcases h with (h | h) | h
  · exact .inr (List.mem_of_mem_take h)
  · exact .inl h
  · exact .inr (List.mem_of_mem_drop h)
theorem ThingsA.ins {k : Nat} {ts : List Thing} {t : Thing} (n : Nat) (h : ThingsA k ts) (ht : t.i = k) (hm : t.move.F 42 378) : ThingsA (k + 1) (ts.take n ++ [t] ++ ts.drop n) := by
  refine ⟨fun x hx => ?_, fun x hx y hy e => ?_⟩
  · rcases mem_ins hx with rfl | hx
    · exact ⟨by omega, hm⟩
    · exact ⟨by have := (h.1 x hx).1; omega, (h.1 x hx).2⟩
  · rcases mem_ins hx with hx | hx <;> rcases mem_ins hy with hy | hy
    · rw [hx, hy]
    · exfalso; have := (h.1 y hy).1; rw [hx] at e; omega
    · exfalso; have := (h.1 x hx).1; rw [hy] at e; omega
    · exact h.2 x hx y hy e
theorem ok_law {f : Addr} {fd : FuncData} (F : Fun K "law" "law" s_law f fd) (T : Tx K mg w) : FnOk P w K mg base CX0 22 f fd ["_law_script"] (sp_law K) := by
  have G__law_deck := ok__law_deck (P := P) (w := w) (base := base) T
  have G__law_take := ok__law_take (P := P) (w := w) (base := base) T
  have G__law_base := okD__law_base (P := P) (w := w) (base := base) T
  have G__law_point := okD__law_point (P := P) (w := w) (base := base) T
  have G__law_number := okD__law_number (P := P) (w := w) (base := base) T
  have G__law_right := ok__law_right (P := P) (w := w) (base := base) T
  refine F.ok sc_law (fun vs H Q E h => ?_) (fun cdv A outer s0 H vs Q E hr h => ?_)
  · obtain ⟨_, _, rfl, _⟩ := h
    rfl
  obtain ⟨s, ns, rfl, hS, hlen, k⟩ := h
  refine ⟨_, (pss_cons (ps_set (i := 1) sc_law.nd rfl (Or.inr rfl) (pe_call G__law_deck (hr.mono (by first | decide | omega)) (by rfl) T.g__law_deck T.F__law_deck.kp T.b__law_deck .nil pass0 (pa_cons (pv 0) pa_nil)))
      (pss_cons (ps_set (i := 2) sc_law.nd rfl (Or.inl rfl) (pe_callTy call_tuple_of (by rfl) T.m_tuple (by decide +kernel) (pa_cons (pe_lc (own := [("_law_k", 4)]) (g := gName 4) (by rfl) sc_law.nd (pi_range1 (by rfl) T.m_range (pa_cons (pe_op op_add pe_int (pe_call G__law_take (hr.mono (by first | decide | omega)) (by rfl) T.g__law_take T.F__law_take.kp T.b__law_take .nil pass0 (pa_cons (pv 1) (pa_cons pe_int pa_nil)))) pa_nil)) (blkOk_by (own := [("_law_k", 4)]) (N := nm_law) (sc := defScope s_law) (by decide +kernel)) (fun _ _ _ _ _ => (pg_name (i := 4) sc_law.nd rfl (Or.inl rfl))) (fun _ _ _ _ _ => pts_nil) (fun _ _ _ _ _ => (pe_tup (pa_cons (pe_ix ix_str pe_str (pv 4) (fun _ _ => rfl)) (pa_cons (pe_call G__law_base (hr.mono (by first | decide | omega)) (by rfl) T.g__law_base T.F__law_base.kp T.b__law_base .nil pass0 (pa_cons (pv 1) pa_nil)) pa_nil))))) pa_nil)))
      (pss_cons (ps_set (i := 3) sc_law.nd rfl (Or.inl rfl) (pe_lst pa_nil))
      (pss_cons (ps_for PassesOwn.never rfl (pi_range1 (by rfl) T.m_range (pa_cons (pe_callB call_len_seq (by rfl) T.m_len (by decide +kernel) (pa_cons (pv 2) pa_nil)) pa_nil)) (pg_name (i := 4) sc_law.nd rfl (Or.inl rfl)) (pss_cons (ps_set (i := 5) sc_law.nd rfl (Or.inl rfl) (pe_ix ix_list (pe_lst (pa_cons (pe_tup (pa_cons (pe_tup (pa_cons pe_int (pa_cons pe_int pa_nil))) (pa_cons (pe_tup (pa_cons pe_int (pa_cons pe_int pa_nil))) (pa_cons (pe_tup (pa_cons pe_int (pa_cons pe_int pa_nil))) pa_nil)))) (pa_cons (pe_call G__law_point (hr.mono (by first | decide | omega)) (by rfl) T.g__law_point T.F__law_point.kp T.b__law_point .nil pass0 (pa_cons (pv 1) pa_nil)) pa_nil))) (pe_call G__law_take (hr.mono (by first | decide | omega)) (by rfl) T.g__law_take T.F__law_take.kp T.b__law_take .nil pass0 (pa_cons (pv 1) (pa_cons pe_int pa_nil))) (fun _ _ => rfl)))
      (pss_one (ps_expr (pe_bm PySem.F.plainAttrs_list PySem.F.slot_list_insert PySem.F.type_list_insert mt_insert (pv 3) (pa_cons (pe_call G__law_take (hr.mono (by first | decide | omega)) (by rfl) T.g__law_take T.F__law_take.kp T.b__law_take .nil pass0 (pa_cons (pv 1) (pa_cons (pe_op op_add (pe_callB call_len_seq (by rfl) T.m_len (by decide +kernel) (pa_cons (pv 3) pa_nil)) pe_int) pa_nil))) (pa_cons (pe_tup (pa_cons (pv 4) (pa_cons pe_str (pa_cons (pe_cmpR op_eq (pe_call G__law_take (hr.mono (by first | decide | omega)) (by rfl) T.g__law_take T.F__law_take.kp T.b__law_take .nil pass0 (pa_cons (pv 1) (pa_cons pe_int pa_nil))) pe_int (nomark _)) (pa_cons (pv 5) pa_nil))))) pa_nil)))))))
      (pss_cons (ps_set (i := 3) sc_law.nd rfl (Or.inl rfl) (pe_slice sl_list (pv 3) (po_some (pe_call G__law_take (hr.mono (by first | decide | omega)) (by rfl) T.g__law_take T.F__law_take.kp T.b__law_take .nil pass0 (pa_cons (pv 1) (pa_cons pe_int pa_nil)))) po_none))
      (pss_cons (ps_set (i := 6) sc_law.nd rfl (Or.inl rfl) (pe_tup (pa_cons (pv 2) (pa_cons (pe_callTy call_tuple_of (by rfl) T.m_tuple (by decide +kernel) (pa_cons (pv 3) pa_nil)) (pa_cons (pe_tup pa_nil) (pa_cons (pe_tup pa_nil) pa_nil))))))
      (pss_cons (ps_for PassesOwn.never rfl (pi_list (pv 3)) (pg_name (i := 7) sc_law.nd rfl (Or.inl rfl)) (pss_one (ps_for PassesOwn.never rfl (pi_list (pe_lst (pa_cons (pe_tup (pa_cons pe_int (pa_cons pe_int pa_nil))) (pa_cons (pe_tup (pa_cons pe_int (pa_cons pe_int pa_nil))) (pa_cons (pe_call G__law_number (hr.mono (by first | decide | omega)) (by rfl) T.g__law_number T.F__law_number.kp T.b__law_number .nil pass0 (pa_cons (pv 1) pa_nil)) pa_nil))))) (pg_name (i := 8) sc_law.nd rfl (Or.inl rfl)) (pss_one (ps_if (pt_not (pt_val (pe_call G__law_right (hr.mono (by first | decide | omega)) (by rfl) T.g__law_right T.F__law_right.kp T.b__law_right .nil pass0 (pa_cons (pv 6) (pa_cons (pv 7) (pa_cons (pv 8) pa_nil)))))) (pss_one (ps_ret pe_bl)) pss_nil)))))
      (pss_one (ps_ret pe_bl))))))))), ?_⟩
  rw [show L2.start nm_law [.ref s] = [some (.ref s), none, none, none, none, none, none, none, none] from rfl]
  refine ⟨.ref s, rfl, s, ns, rfl, hS, hlen, fun H1 d l S1 D1 nd nl => ?_⟩
  dsimp only [gName, List.set_cons_succ, List.set_cons_zero]
  -- bodies
  refine ⟨.ref d, rfl, d, l, s, ns, 0, 6, rfl, D1, by decide, by decide, by decide, fun H2 n k2 D2 n0 n1 => ⟨1, n, rfl, rfl, _, rfl, by omega, by omega, fun D nD => ?_⟩⟩
  have ap := D2.apart nD
  refine lc_range (lo := 0) (n := (1 + n).toNat) (fun i H' => Keep d l H2 H' ∧ Dk K H' d l s ns (1 + 13 * i) ∧ ∃ ys bs, H' D = some (.lst ys) ∧ DTs K H' ys (bs.map eBody) ∧ bs.length = i ∧ BodiesA bs) ⟨keep_new nD, D2.new nD, [], [], upd_same, .nil, rfl, fun j b e => by cases e⟩ (fun i H' hi p => ?_) (fun H' p => ?_)
  · obtain ⟨kp, Dk', ys, bs, hD, hys, hbl, hb⟩ := p
    have hi6 : i < 6 := by omega
    refine ⟨rfl, _, rfl, _, _, 97 + i, rfl, rfl, by decide +kernel, by rw [Int.zero_add]; exact abc_at hi6, ?_⟩
    refine ⟨.ref d, rfl, d, l, s, ns, 1 + 13 * i, rfl, Dk', by omega, fun H3 v f k3 D3 z3 f3 => ?_⟩
    refine ⟨sz_n (by decide : 2 ≤ 1000), fun p hp => ?_⟩
    have zb : DT K (upd H3 p (.tup [.str ⟨#[97 + i]⟩, v])) (.ref p) (eBody ⟨nmA i, f⟩) := dt2 hp (.str _) z3
    have tk3 := (k3.tk Dk').trans (tk_new hp (o := .tup [.str ⟨#[97 + i]⟩, v]))
    have D4 := D3.new hp (o := .tup [.str ⟨#[97 + i]⟩, v])
    have kp4 := kp.trans (k3.trans (keep_new hp (o := .tup [.str ⟨#[97 + i]⟩, v])))
    have hD4 : upd H3 p (.tup [.str ⟨#[97 + i]⟩, v]) D = some (.lst ys) := same_upd hp _ _ (k3 D _ hD ap.1 ap.2.1)
    generalize upd H3 p (.tup [.str ⟨#[97 + i]⟩, v]) = H4 at zb tk3 D4 kp4 hD4 ⊢
    have hyl : ys.length = i := by rw [hys.len, List.length_map, hbl]
    refine ⟨ys, hD4, small1000 (by omega), fun a o ho na nl' => ?_, (D4.mono (by omega)).beside ap, _, bs ++ [⟨nmA i, f⟩], upd_same, ?_, ?_, fun j b e => ?_⟩
    · rw [upd_ne (ne_of_none ho nD)]; exact kp4 a o ho na nl'
    · rw [List.map_append]
      exact ((hys.tk tk3).tk (tk_lst hD4)).append (.cons (zb.tk (tk_lst hD4)) .nil)
    · rw [List.length_append, hbl]; rfl
    · rw [List.getElem?_append] at e
      split at e
      · exact hb j b e
      · next hj =>
        have : j = bs.length := by
          have := (List.getElem?_eq_some_iff.mp e).1
          simp only [List.length_singleton] at this
          omega
        subst this
        rw [Nat.sub_self] at e
        cases e
        rw [hbl]
        exact ⟨rfl, f3⟩
  obtain ⟨kp, Dk', ys, bs, hD, hys, hbl, hb⟩ := p
  have hb6 : bs.length ≤ 6 := by omega
  refine ⟨D, ys, rfl, .inl ⟨SqL.of hD, fun t ht => ?_⟩⟩
  have zB := dt_new ht hys
  have Db := (Dk'.new ht (o := .tup ys)).mono (show 1 + 13 * (1 + n).toNat ≤ 79 by omega)
  have hT : upd H' t (.tup ys) t = some (.tup ys) := upd_same
  have hyl : ys.length = bs.length := by rw [hys.len, List.length_map]
  generalize upd H' t (.tup ys) = Hb at zB Db hT ⊢
  dsimp only [gName, List.set_cons_succ, List.set_cons_zero]
  -- things
  refine ⟨sz_n (by decide : 0 ≤ 1000), fun TL nTL => ?_⟩
  dsimp only [gName, List.set_cons_succ, List.set_cons_zero]
  have at_ := Db.apart nTL
  refine ⟨.ref t, rfl, t, _, rfl, .inr (SqT.of (same_upd nTL _ _ hT)), _, rfl, by omega, by omega, ?_⟩
  refine for_range (lo := 0) (n := ((ys.length : Nat) : Int).toNat) (fun i σ H' => ∃ zs ts v4 v5, σ = [some (.ref s), some (.ref d), some (.ref t), some (.ref TL), v4, v5, none, none, none] ∧ Keep d l Hb H' ∧ Dk K H' d l s ns (79 + 9 * i) ∧ H' TL = some (.lst zs) ∧ DTs K H' zs (ts.map eThing) ∧ ts.length = i ∧ ThingsA i ts)
    ⟨[], [], _, _, rfl, keep_new nTL, Db.new nTL, upd_same, .nil, rfl, fun t h => (by cases h), fun t h => (by cases h)⟩ (fun i σ H' hi p => ?_) (fun σ H' p => ?_)
  · obtain ⟨zs, ts, v4, v5, rfl, kp, D', hTL, hzs, hts, ha⟩ := p
    have hi6 : i < 6 := by omega
    dsimp only [gName, List.set_cons_succ, List.set_cons_zero]
    -- move
    refine rd_asg (rd_op (rd_lst (rd_cons (tup3i (K := K) pi_c pi_c pi_c pi_c pi_c pi_c fun H4 v4 S4 z4 => rd_cons ?_))))
    have D4 := D'.same S4
    refine ⟨.ref d, rfl, d, l, s, ns, 79 + 9 * i, rfl, D4, by omega, fun H5 vp p5 k5 D5 z5 f5 => ⟨sz_n (by decide : 2 ≤ 1000), fun q hq => ?_⟩⟩
    have aq := D5.apart hq
    refine ⟨.ref d, rfl, d, l, s, ns, 79 + 9 * i + 6, 2, rfl, D5.new hq, by omega, by decide, by decide, fun H6 e k6 D6 e0 e1 => ?_⟩
    have hq6 := k6 q _ upd_same aq.1 aq.2.1
    have t56 : TK H5 H6 := (tk_new hq).trans (k6.tk (D5.new hq))
    have kp6 := kp.trans ((same_keep S4).trans (k5.trans ((keep_new hq).trans k6)))
    have tk6 : TK H' H6 := (Same.tk S4).trans ((k5.tk D4).trans t56)
    have hTL6 : H6 TL = some (.lst zs) := k6 TL _ (same_upd hq _ _ (k5 TL _ (S4 _ _ hTL) at_.1 at_.2.1)) at_.1 at_.2.1
    obtain ⟨mv, mp, hx, zm, fm⟩ : ∃ mv mp, atI [v4, vp] e = some mv ∧ DT K H6 mv (eP mp) ∧ mp.F 42 378 := by
      have : e = 0 ∨ e = 1 := by omega
      rcases this with rfl | rfl
      · exact ⟨v4, ⟨0, 0, 0⟩, rfl, (z4.tk ((k5.tk D4).trans t56) : DT K H6 v4 (eP ⟨0, 0, 0⟩)), Fx.zero, Fx.zero, Fx.zero⟩
      · exact ⟨vp, p5, rfl, z5.tk t56, f5⟩
    refine ⟨q, _, e, mv, rfl, rfl, SqL.of hq6, hx, ?_⟩
    dsimp only [gName, List.set_cons_succ, List.set_cons_zero]
    -- insert
    refine ⟨.ref TL, rfl, .inl ⟨rfl, _, SqL.of hTL6⟩, ?_⟩
    have hzl : zs.length = i := by rw [hzs.len, List.length_map, hts]
    refine ⟨.ref d, rfl, .ref TL, rfl, TL, _, rfl, .inl (SqL.of hTL6), _, 1, rfl, rfl, d, l, s, ns, 79 + 9 * i + 7, _, rfl, D6, by omega, by omega, by omega, fun H7 j k7 D7 j0 j1 => ?_⟩
    refine ⟨_, rfl, .ref d, rfl, d, l, s, ns, 79 + 9 * i + 8, 2, rfl, D7, by omega, by decide, by decide, fun H8 b k8 D8 b0 b1 => ⟨rfl, _, rfl, sz_n (by decide : 4 ≤ 1000), fun r hr' => ?_⟩⟩
    have tk8 := (k7.tk D6).trans (k8.tk D7)
    have zr : DT K (upd H8 r (.tup [.int (0 + (i : Int)), .str "red", .bl (decide (V.int b = V.int 0)), mv])) (.ref r) (eThing ⟨i, "red", decide (V.int b = V.int 0), mp⟩) := dt_new hr' (.cons (by rw [Int.zero_add]; exact .int _) (.cons (.str _) (.cons (.bl _) (.cons (zm.tk tk8) .nil))))
    have hTL8 : upd H8 r (.tup [.int (0 + (i : Int)), .str "red", .bl (decide (V.int b = V.int 0)), mv]) TL = some (.lst zs) := same_upd hr' _ _ (k8 TL _ (k7 TL _ hTL6 at_.1 at_.2.1) at_.1 at_.2.1)
    have D9 := D8.new hr' (o := .tup [.int (0 + (i : Int)), .str "red", .bl (decide (V.int b = V.int 0)), mv])
    have kp9 := kp6.trans (k7.trans (k8.trans (keep_new hr' (o := .tup [.int (0 + (i : Int)), .str "red", .bl (decide (V.int b = V.int 0)), mv]))))
    have tk9 := (tk6.trans tk8).trans (tk_new hr' (o := .tup [.int (0 + (i : Int)), .str "red", .bl (decide (V.int b = V.int 0)), mv]))
    generalize upd H8 r (.tup [.int (0 + (i : Int)), .str "red", .bl (decide (V.int b = V.int 0)), mv]) = H9 at zr hTL8 D9 kp9 tk9 ⊢
    refine ⟨TL, zs, j, .ref r, rfl, rfl, hTL8, small1000 (by omega), j0, by omega, ?_⟩
    refine ⟨_, ts.take j.toNat ++ [⟨i, "red", decide (V.int b = V.int 0), mp⟩] ++ ts.drop j.toNat, _, _, rfl, fun a o ho na nl' => ?_, (D9.mono (by omega)).beside at_, upd_same, ?_, ?_, ha.ins j.toNat rfl fm⟩
    · rw [upd_ne (ne_of_none ho nTL)]; exact kp9 a o ho na nl'
    · rw [List.map_append, List.map_append, List.map_take, List.map_drop]
      have h9 := (hzs.tk tk9).tk (tk_lst hTL8 (o := .lst (zs.take j.toNat ++ [.ref r] ++ zs.drop j.toNat)))
      exact ((h9.take j.toNat).append (.cons (zr.tk (tk_lst hTL8)) .nil)).append (h9.drop j.toNat)
    · rw [List.length_append, List.length_append, List.length_take, List.length_drop, hts]
      show min j.toNat i + 1 + (i - j.toNat) = i + 1
      omega
  obtain ⟨zs, ts, v4, v5, rfl, kp, D', hTL, hzs, hts, ha⟩ := p
  have hzl : zs.length = ts.length := by rw [hzs.len, List.length_map]
  dsimp only [gName, List.set_cons_succ, List.set_cons_zero]
  -- the rest of the things
  refine ⟨.ref TL, rfl, .ref d, rfl, d, l, s, ns, _, 2, rfl, D', by omega, by decide, by decide, fun H5 e k5 D5 e0 e1 => ⟨e, rfl, TL, zs, rfl, SqL.of (k5 TL _ hTL at_.1 at_.2.1), fun p2 hp2 => ?_⟩⟩
  have tk5 : TK H' (upd H5 p2 (.lst (cutV zs (some e) none))) := (k5.tk D').trans (tk_new hp2)
  have D6 := D5.new hp2 (o := .lst (cutV zs (some e) none))
  have hp6 : upd H5 p2 (.lst (cutV zs (some e) none)) p2 = some (.lst (cutV zs (some e) none)) := upd_same
  have kp6 := kp.trans (k5.trans (keep_new hp2 (o := .lst (cutV zs (some e) none))))
  have ap2 := D5.apart hp2
  have hts2 : DTs K (upd H5 p2 (.lst (cutV zs (some e) none))) (cutV zs (some e) none) (((ts.drop (HT.sIx zs.length 0 (some e))).take (HT.sIx zs.length zs.length none - HT.sIx zs.length 0 (some e))).map eThing) := by
    rw [List.map_take, List.map_drop]
    exact ((hzs.tk tk5).drop _).take _
  have sub : ∀ th ∈ (ts.drop (HT.sIx zs.length 0 (some e))).take (HT.sIx zs.length zs.length none - HT.sIx zs.length 0 (some e)), th ∈ ts := fun th h => List.mem_of_mem_drop (List.mem_of_mem_take h)
  have l2 : ((ts.drop (HT.sIx zs.length 0 (some e))).take (HT.sIx zs.length zs.length none - HT.sIx zs.length 0 (some e))).length ≤ 6 := by
    rw [List.length_take, List.length_drop]; omega
  generalize (ts.drop (HT.sIx zs.length 0 (some e))).take (HT.sIx zs.length zs.length none - HT.sIx zs.length 0 (some e)) = ts2 at hts2 sub l2
  generalize cutV zs (some e) none = zs2 at tk5 D6 hp6 kp6 hts2 ⊢
  generalize upd H5 p2 (.lst zs2) = H6 at tk5 D6 hp6 kp6 hts2 ⊢
  dsimp only [gName, List.set_cons_succ, List.set_cons_zero]
  -- scene
  refine ⟨_, rfl, .ref p2, rfl, p2, _, rfl, .inl ⟨SqL.of hp6, fun q hq => ?_⟩⟩
  have zq := dt_new hq hts2
  have S7 := same_upd hq (o := .tup zs2)
  generalize upd H6 q (.tup zs2) = H7 at zq S7 ⊢
  refine ⟨sz_n (by decide : 0 ≤ 1000), fun x1 hx1 => ?_⟩
  have c1 : DT K (upd H7 x1 (.tup [])) (.ref x1) (.tuple []) := dt_new hx1 .nil
  have S8 := S7.trans (same_upd hx1 (o := .tup []))
  have zq := zq.same (same_upd hx1 (o := .tup []))
  generalize upd H7 x1 (.tup []) = H8 at c1 S8 zq ⊢
  refine ⟨sz_n (by decide : 0 ≤ 1000), fun x2 hx2 => ?_⟩
  have c2 : DT K (upd H8 x2 (.tup [])) (.ref x2) (.tuple []) := dt_new hx2 .nil
  have S9 := S8.trans (same_upd hx2 (o := .tup []))
  have zq := zq.same (same_upd hx2 (o := .tup []))
  have c1 := c1.same (same_upd hx2 (o := .tup []))
  generalize upd H8 x2 (.tup []) = H9 at c1 c2 S9 zq ⊢
  refine ⟨sz_n (by decide : 4 ≤ 1000), fun sc hsc => ?_⟩
  have kpB : TK Hb H9 := (kp6.tk Db).trans (Same.tk S9)
  have zs_ : DT K (upd H9 sc (.tup [.ref t, .ref q, .ref x1, .ref x2])) (.ref sc) (eScene bs ts2 (.tuple []) (.tuple [])) := dt_new hsc (.cons (zB.tk kpB) (.cons zq (.cons c1 (.cons c2 .nil))))
  have S10 := S9.trans (same_upd hsc (o := .tup [.ref t, .ref q, .ref x1, .ref x2]))
  generalize upd H9 sc (.tup [.ref t, .ref q, .ref x1, .ref x2]) = Hs at zs_ S10 ⊢
  dsimp only [gName, List.set_cons_succ, List.set_cons_zero]
  have Ds := (D6.same S10).mono (show 79 + 9 * ((ys.length : Nat) : Int).toNat + 1 ≤ 200 by omega)
  have hps := S10 _ _ hp6
  have hts2 := hts2.tk (Same.tk S10)
  have hz2 : zs2.length ≤ 6 := by rw [hts2.len, List.length_map]; exact l2
  refine ⟨.ref p2, rfl, p2, rfl, ⟨_, SqL.of hps⟩, for_list (K := K) (a := p2) (xs := zs2) (fun i σ H' => ∃ v7 v8, σ = [some (.ref s), some (.ref d), some (.ref t), some (.ref p2), v4, v5, some (.ref sc), v7, v8] ∧ Keep d l Hs H' ∧ Dk K H' d l s ns (200 + 2 * i))
    ⟨_, _, rfl, Keep.refl, Ds⟩ (fun i σ H' _ p => ?_) (fun i x σ H' hx p => ?_) (fun σ H' p => ?_)⟩
  · obtain ⟨_, _, _, kp, _⟩ := p
    exact SqL.of (kp p2 _ hps ap2.1 ap2.2.1)
  · obtain ⟨v7, v8, rfl, kp, D'⟩ := p
    have hil := (List.getElem?_eq_some_iff.mp hx).1
    obtain ⟨dd, hd, zx⟩ := hts2.get' hx
    rw [List.getElem?_map] at hd
    cases et : ts2[i]? with
    | none => rw [et] at hd; cases hd
    | some th =>
      rw [et] at hd
      cases hd
      have hth : th ∈ ts2 := List.mem_of_getElem? et
      have hthi : th.i < bs.length := by have := (ha.1 th (sub th hth)).1; omega
      have eb : bs[th.i]? = some bs[th.i] := List.getElem?_eq_getElem hthi
      obtain ⟨nb, lf⟩ := hb th.i bs[th.i] eb
      obtain ⟨rest, ef⟩ : ∃ rest, ts2.filter (named bs bs[th.i].name) = th :: rest := by
        refine filter_one hth ?_ fun u hu pu => ?_
        · unfold named; rw [eb]; exact decide_eq_true rfl
        · have hui : u.i < bs.length := by have := (ha.1 u (sub u hu)).1; omega
          have eu : bs[u.i]? = some bs[u.i] := List.getElem?_eq_getElem hui
          unfold named at pu
          rw [eu] at pu
          have pu := of_decide_eq_true pu
          rw [(hb u.i _ eu).1, nb] at pu
          unfold nmA at pu
          injection pu with pu
          have : 97 + u.i = 97 + th.i := by
            have := congrArg Array.toList pu
            injection this
          exact ha.2 u (sub u hu) th (sub th hth) (by omega)
      dsimp only [gName, List.set_cons_succ, List.set_cons_zero]
      refine rd_for (rd_iL (rd_lst (rd_cons (tup2i (K := K) pi_c pi_c fun H4 m1 S4 z4 => rd_cons (tup2i (K := K) pi_c pi_c fun H5 m2 S5 z5 => rd_cons ?_)))))
      have D5 := (D'.same S4).same S5
      refine ⟨.ref d, rfl, d, l, s, ns, 200 + 2 * i, rfl, D5, by omega, fun H6 m3 q6 k6 D6 z6 f6 _ => ⟨sz_n (by decide : 3 ≤ 1000), fun ml hml => ?_⟩⟩
      have z4 : DT K _ m1 (eF 0) := ((z4.same S5).tk (k6.tk D5)).tk (tk_new hml (o := .lst [m1, m2, m3]))
      have z5 : DT K _ m2 (eF 1) := (z5.tk (k6.tk D5)).tk (tk_new hml (o := .lst [m1, m2, m3]))
      have z6 := z6.tk (tk_new hml (o := .lst [m1, m2, m3]))
      have D7 := D6.new hml (o := .lst [m1, m2, m3])
      have kp7 := kp.trans ((same_keep (S4.trans S5)).trans (k6.trans (keep_new hml (o := .lst [m1, m2, m3]))))
      have hml7 : upd H6 ml (.lst [m1, m2, m3]) ml = some (.lst [m1, m2, m3]) := upd_same
      generalize upd H6 ml (.lst [m1, m2, m3]) = H7 at z4 z5 z6 D7 kp7 hml7 ⊢
      have b4000 : ∀ n, n ≤ 1000 → n < 2 ^ 4000 := fun n h => Nat.lt_of_le_of_lt h (Nat.lt_of_lt_of_le (by decide : 1000 < 2 ^ 10) (Nat.pow_le_pow_right (by decide) (by decide)))
      refine ⟨ml, rfl, ⟨_, SqL.of hml7⟩, for_list (K := K) (a := ml) (xs := [m1, m2, m3]) (fun j σ H' => ∃ v8, σ = [some (.ref s), some (.ref d), some (.ref t), some (.ref p2), v4, v5, some (.ref sc), some x, v8] ∧ Same H7 H') ⟨_, rfl, Same.refl _⟩ (fun j σ H' _ p => SqL.of (p.choose_spec.2 _ _ hml7)) (fun j y σ H' hy p => ?_) (fun σ H' p => ?_)⟩
      · obtain ⟨v8, rfl, S8⟩ := p
        obtain ⟨m, zm, bm⟩ : ∃ m, DT K H7 y (eF m) ∧ Rb 4000 m := by
          match j, hy with
          | 0, hy => cases hy; exact ⟨0, z4, rb01⟩
          | 1, hy => cases hy; exact ⟨1, z5, ⟨Bt.mono (m := 1) (bt_lit (by decide)) (by decide), Bt.mono (m := 1) (bt_lit (by decide)) (by decide)⟩⟩
          | 2, hy => cases hy; exact ⟨q6, z6, f6.rb (by decide) (b4000 _ (by decide)) (b4000 _ (by decide))⟩
        have tks : TK Hs H' := (kp7.tk Ds).trans (Same.tk S8)
        dsimp only [gName, List.set_cons_succ, List.set_cons_zero]
        refine ⟨_, rfl, _, rfl, _, rfl, _, _, _, bs, ts2, _, _, th, bs[th.i], rest, m, rfl, zs_.tk tks, zx.tk tks, zm.same S8, eb, lf, fun u hu => by have := (ha.1 u (sub u hu)).1; omega, by omega, ef, (ha.1 th (sub th hth)).2.B (by decide) (b4000 _ (by decide)) (b4000 _ (by decide)), bm, fun H9 S9 => ⟨true, rfl, iteF ⟨_, rfl, S8.trans S9⟩⟩⟩
      · obtain ⟨v8, rfl, S8⟩ := p
        exact ⟨_, _, rfl, kp7.trans (same_keep S8), (D7.same S8).mono (by omega)⟩
  · exact k H'
end

theorem all_mk {l : PySem.W.OpenLaw} {w : World} {K : PySem.W.Frag} {h : Heap} {mg : Str → Option Value} {fa : Addr} (X : K.In h) (G : h.Ns mainGlobals mg) (hfa : mg "law" = some (.ref fa))
    {tkK0_0 : Tok}
    {tkK0_1 : Tok}
    {qK0 : Addr} {odK0 : Option Addr} {nK0 : Nat} {slK0 : Array (Option Value)} (kK0 : K.lookup qK0 = some ⟨.type "tuple", odK0, .seq #[.int (0) tkK0_0, .int (1) tkK0_1] nK0, slK0⟩)
    (gK0 : PySem.W.nsIn K mainGlobals "NOUGHT" = some (some (.ref qK0)))
    {qK1 : Addr} {esK1 : Array DictEntry} {nK1 : Nat} (gK1 : PySem.W.nsIn K mainGlobals "SPOKEN_OF" = some (some (.ref qK1))) (kK1 : K.lookup qK1 = some ⟨.type "dict", none, .dict esK1 nK1, #[]⟩) (hK1 : PySem.W.KeysLit w.params esK1.toList)
    {tK1_0 : Tok} (eK1_0 : PySem.W.nsIn K qK1 "box" = some (some (.int 0 tK1_0)))
    {tK1_1 : Tok} (eK1_1 : PySem.W.nsIn K qK1 "ball" = some (some (.int 0 tK1_1)))
    {tK1_2 : Tok} (eK1_2 : PySem.W.nsIn K qK1 "half" = some (some (.int 0 tK1_2)))
    {tK1_3 : Tok} (eK1_3 : PySem.W.nsIn K qK1 "join" = some (some (.int 2 tK1_3)))
    {tK1_4 : Tok} (eK1_4 : PySem.W.nsIn K qK1 "cut" = some (some (.int 2 tK1_4)))
    {tK1_5 : Tok} (eK1_5 : PySem.W.nsIn K qK1 "meet" = some (some (.int 2 tK1_5)))
    {tK1_6 : Tok} (eK1_6 : PySem.W.nsIn K qK1 "slide" = some (some (.int 1 tK1_6)))
    {tK1_7 : Tok} (eK1_7 : PySem.W.nsIn K qK1 "turn" = some (some (.int 1 tK1_7)))
    {tkK2_0 : Tok}
    {tkK2_1 : Tok}
    {qK2 : Addr} {odK2 : Option Addr} {nK2 : Nat} {slK2 : Array (Option Value)} (kK2 : K.lookup qK2 = some ⟨.type "tuple", odK2, .seq #[.int (1) tkK2_0, .int (1) tkK2_1] nK2, slK2⟩)
    (gK2 : PySem.W.nsIn K mainGlobals "ONE" = some (some (.ref qK2)))
    {tkK3_0_0_0 : Tok}
    {tkK3_0_0_1 : Tok}
    {qK3_0_0 : Addr} {odK3_0_0 : Option Addr} {nK3_0_0 : Nat} {slK3_0_0 : Array (Option Value)} (kK3_0_0 : K.lookup qK3_0_0 = some ⟨.type "tuple", odK3_0_0, .seq #[.int (1) tkK3_0_0_0, .int (1) tkK3_0_0_1] nK3_0_0, slK3_0_0⟩)
    {tkK3_0_1_0 : Tok}
    {tkK3_0_1_1 : Tok}
    {qK3_0_1 : Addr} {odK3_0_1 : Option Addr} {nK3_0_1 : Nat} {slK3_0_1 : Array (Option Value)} (kK3_0_1 : K.lookup qK3_0_1 = some ⟨.type "tuple", odK3_0_1, .seq #[.int (0) tkK3_0_1_0, .int (1) tkK3_0_1_1] nK3_0_1, slK3_0_1⟩)
    {tkK3_0_2_0 : Tok}
    {tkK3_0_2_1 : Tok}
    {qK3_0_2 : Addr} {odK3_0_2 : Option Addr} {nK3_0_2 : Nat} {slK3_0_2 : Array (Option Value)} (kK3_0_2 : K.lookup qK3_0_2 = some ⟨.type "tuple", odK3_0_2, .seq #[.int (0) tkK3_0_2_0, .int (1) tkK3_0_2_1] nK3_0_2, slK3_0_2⟩)
    {qK3_0 : Addr} {odK3_0 : Option Addr} {nK3_0 : Nat} {slK3_0 : Array (Option Value)} (kK3_0 : K.lookup qK3_0 = some ⟨.type "tuple", odK3_0, .seq #[.ref qK3_0_0, .ref qK3_0_1, .ref qK3_0_2] nK3_0, slK3_0⟩)
    {tkK3_1_0_0 : Tok}
    {tkK3_1_0_1 : Tok}
    {qK3_1_0 : Addr} {odK3_1_0 : Option Addr} {nK3_1_0 : Nat} {slK3_1_0 : Array (Option Value)} (kK3_1_0 : K.lookup qK3_1_0 = some ⟨.type "tuple", odK3_1_0, .seq #[.int (0) tkK3_1_0_0, .int (1) tkK3_1_0_1] nK3_1_0, slK3_1_0⟩)
    {tkK3_1_1_0 : Tok}
    {tkK3_1_1_1 : Tok}
    {qK3_1_1 : Addr} {odK3_1_1 : Option Addr} {nK3_1_1 : Nat} {slK3_1_1 : Array (Option Value)} (kK3_1_1 : K.lookup qK3_1_1 = some ⟨.type "tuple", odK3_1_1, .seq #[.int (1) tkK3_1_1_0, .int (1) tkK3_1_1_1] nK3_1_1, slK3_1_1⟩)
    {tkK3_1_2_0 : Tok}
    {tkK3_1_2_1 : Tok}
    {qK3_1_2 : Addr} {odK3_1_2 : Option Addr} {nK3_1_2 : Nat} {slK3_1_2 : Array (Option Value)} (kK3_1_2 : K.lookup qK3_1_2 = some ⟨.type "tuple", odK3_1_2, .seq #[.int (0) tkK3_1_2_0, .int (1) tkK3_1_2_1] nK3_1_2, slK3_1_2⟩)
    {qK3_1 : Addr} {odK3_1 : Option Addr} {nK3_1 : Nat} {slK3_1 : Array (Option Value)} (kK3_1 : K.lookup qK3_1 = some ⟨.type "tuple", odK3_1, .seq #[.ref qK3_1_0, .ref qK3_1_1, .ref qK3_1_2] nK3_1, slK3_1⟩)
    {tkK3_2_0_0 : Tok}
    {tkK3_2_0_1 : Tok}
    {qK3_2_0 : Addr} {odK3_2_0 : Option Addr} {nK3_2_0 : Nat} {slK3_2_0 : Array (Option Value)} (kK3_2_0 : K.lookup qK3_2_0 = some ⟨.type "tuple", odK3_2_0, .seq #[.int (0) tkK3_2_0_0, .int (1) tkK3_2_0_1] nK3_2_0, slK3_2_0⟩)
    {tkK3_2_1_0 : Tok}
    {tkK3_2_1_1 : Tok}
    {qK3_2_1 : Addr} {odK3_2_1 : Option Addr} {nK3_2_1 : Nat} {slK3_2_1 : Array (Option Value)} (kK3_2_1 : K.lookup qK3_2_1 = some ⟨.type "tuple", odK3_2_1, .seq #[.int (0) tkK3_2_1_0, .int (1) tkK3_2_1_1] nK3_2_1, slK3_2_1⟩)
    {tkK3_2_2_0 : Tok}
    {tkK3_2_2_1 : Tok}
    {qK3_2_2 : Addr} {odK3_2_2 : Option Addr} {nK3_2_2 : Nat} {slK3_2_2 : Array (Option Value)} (kK3_2_2 : K.lookup qK3_2_2 = some ⟨.type "tuple", odK3_2_2, .seq #[.int (1) tkK3_2_2_0, .int (1) tkK3_2_2_1] nK3_2_2, slK3_2_2⟩)
    {qK3_2 : Addr} {odK3_2 : Option Addr} {nK3_2 : Nat} {slK3_2 : Array (Option Value)} (kK3_2 : K.lookup qK3_2 = some ⟨.type "tuple", odK3_2, .seq #[.ref qK3_2_0, .ref qK3_2_1, .ref qK3_2_2] nK3_2, slK3_2⟩)
    {qK3 : Addr} {odK3 : Option Addr} {nK3 : Nat} {slK3 : Array (Option Value)} (kK3 : K.lookup qK3 = some ⟨.type "tuple", odK3, .seq #[.ref qK3_0, .ref qK3_1, .ref qK3_2] nK3, slK3⟩)
    (gK3 : PySem.W.nsIn K mainGlobals "UNTURNED" = some (some (.ref qK3)))
    {f0 : Addr} {od0 an0 : Option Addr} {sl0 : Array (Option Value)} {oc0 kV0 dc0 pm0 cd0 ct0 : Value}
    (a0 : PySem.W.nsIn K mainGlobals "frac" = some (some (.ref f0))) (l0 : K.lookup f0 = some ⟨oc0, od0, .func (PySem.W.fnOf "frac" "frac" (defArgs s_frac) (defBody s_frac) (defScope s_frac) .none kV0 dc0 pm0 an0 cd0 ct0), sl0⟩) (c0 : PySem.W.codeIn K cd0 "frac" = true) (k0 : PySem.W.keepIn K (.ref f0) = true)
    {f1 : Addr} {od1 an1 : Option Addr} {sl1 : Array (Option Value)} {oc1 kV1 dc1 pm1 cd1 ct1 : Value}
    (a1 : PySem.W.nsIn K mainGlobals "plus" = some (some (.ref f1))) (l1 : K.lookup f1 = some ⟨oc1, od1, .func (PySem.W.fnOf "plus" "plus" (defArgs s_plus) (defBody s_plus) (defScope s_plus) .none kV1 dc1 pm1 an1 cd1 ct1), sl1⟩) (c1 : PySem.W.codeIn K cd1 "plus" = true) (k1 : PySem.W.keepIn K (.ref f1) = true)
    {f2 : Addr} {od2 an2 : Option Addr} {sl2 : Array (Option Value)} {oc2 kV2 dc2 pm2 cd2 ct2 : Value}
    (a2 : PySem.W.nsIn K mainGlobals "minus" = some (some (.ref f2))) (l2 : K.lookup f2 = some ⟨oc2, od2, .func (PySem.W.fnOf "minus" "minus" (defArgs s_minus) (defBody s_minus) (defScope s_minus) .none kV2 dc2 pm2 an2 cd2 ct2), sl2⟩) (c2 : PySem.W.codeIn K cd2 "minus" = true) (k2 : PySem.W.keepIn K (.ref f2) = true)
    {f3 : Addr} {od3 an3 : Option Addr} {sl3 : Array (Option Value)} {oc3 kV3 dc3 pm3 cd3 ct3 : Value}
    (a3 : PySem.W.nsIn K mainGlobals "times" = some (some (.ref f3))) (l3 : K.lookup f3 = some ⟨oc3, od3, .func (PySem.W.fnOf "times" "times" (defArgs s_times) (defBody s_times) (defScope s_times) .none kV3 dc3 pm3 an3 cd3 ct3), sl3⟩) (c3 : PySem.W.codeIn K cd3 "times" = true) (k3 : PySem.W.keepIn K (.ref f3) = true)
    {f4 : Addr} {od4 an4 : Option Addr} {sl4 : Array (Option Value)} {oc4 kV4 dc4 pm4 cd4 ct4 : Value}
    (a4 : PySem.W.nsIn K mainGlobals "dot" = some (some (.ref f4))) (l4 : K.lookup f4 = some ⟨oc4, od4, .func (PySem.W.fnOf "dot" "dot" (defArgs s_dot) (defBody s_dot) (defScope s_dot) .none kV4 dc4 pm4 an4 cd4 ct4), sl4⟩) (c4 : PySem.W.codeIn K cd4 "dot" = true) (k4 : PySem.W.keepIn K (.ref f4) = true)
    {f5 : Addr} {od5 an5 : Option Addr} {sl5 : Array (Option Value)} {oc5 kV5 dc5 pm5 cd5 ct5 : Value}
    (a5 : PySem.W.nsIn K mainGlobals "together" = some (some (.ref f5))) (l5 : K.lookup f5 = some ⟨oc5, od5, .func (PySem.W.fnOf "together" "together" (defArgs s_together) (defBody s_together) (defScope s_together) .none kV5 dc5 pm5 an5 cd5 ct5), sl5⟩) (c5 : PySem.W.codeIn K cd5 "together" = true) (k5 : PySem.W.keepIn K (.ref f5) = true)
    {f6 : Addr} {od6 an6 : Option Addr} {sl6 : Array (Option Value)} {oc6 kV6 dc6 pm6 cd6 ct6 : Value}
    (a6 : PySem.W.nsIn K mainGlobals "stretched" = some (some (.ref f6))) (l6 : K.lookup f6 = some ⟨oc6, od6, .func (PySem.W.fnOf "stretched" "stretched" (defArgs s_stretched) (defBody s_stretched) (defScope s_stretched) .none kV6 dc6 pm6 an6 cd6 ct6), sl6⟩) (c6 : PySem.W.codeIn K cd6 "stretched" = true) (k6 : PySem.W.keepIn K (.ref f6) = true)
    {f7 : Addr} {od7 an7 : Option Addr} {sl7 : Array (Option Value)} {oc7 kV7 dc7 pm7 cd7 ct7 : Value}
    (a7 : PySem.W.nsIn K mainGlobals "turned" = some (some (.ref f7))) (l7 : K.lookup f7 = some ⟨oc7, od7, .func (PySem.W.fnOf "turned" "turned" (defArgs s_turned) (defBody s_turned) (defScope s_turned) .none kV7 dc7 pm7 an7 cd7 ct7), sl7⟩) (c7 : PySem.W.codeIn K cd7 "turned" = true) (k7 : PySem.W.keepIn K (.ref f7) = true)
    {f8 : Addr} {od8 an8 : Option Addr} {sl8 : Array (Option Value)} {oc8 kV8 dc8 pm8 cd8 ct8 : Value}
    (a8 : PySem.W.nsIn K mainGlobals "columns_of" = some (some (.ref f8))) (l8 : K.lookup f8 = some ⟨oc8, od8, .func (PySem.W.fnOf "columns_of" "columns_of" (defArgs s_columns_of) (defBody s_columns_of) (defScope s_columns_of) .none kV8 dc8 pm8 an8 cd8 ct8), sl8⟩) (c8 : PySem.W.codeIn K cd8 "columns_of" = true) (k8 : PySem.W.keepIn K (.ref f8) = true)
    {f9 : Addr} {od9 an9 : Option Addr} {sl9 : Array (Option Value)} {oc9 kV9 dc9 pm9 cd9 ct9 : Value}
    (a9 : PySem.W.nsIn K mainGlobals "turn_about" = some (some (.ref f9))) (l9 : K.lookup f9 = some ⟨oc9, od9, .func (PySem.W.fnOf "turn_about" "turn_about" (defArgs s_turn_about) (defBody s_turn_about) (defScope s_turn_about) .none kV9 dc9 pm9 an9 cd9 ct9), sl9⟩) (c9 : PySem.W.codeIn K cd9 "turn_about" = true) (k9 : PySem.W.keepIn K (.ref f9) = true)
    {f10 : Addr} {od10 an10 : Option Addr} {sl10 : Array (Option Value)} {oc10 kV10 dc10 pm10 cd10 ct10 : Value}
    (a10 : PySem.W.nsIn K mainGlobals "one_behind_other" = some (some (.ref f10))) (l10 : K.lookup f10 = some ⟨oc10, od10, .func (PySem.W.fnOf "one_behind_other" "one_behind_other" (defArgs s_one_behind_other) (defBody s_one_behind_other) (defScope s_one_behind_other) .none kV10 dc10 pm10 an10 cd10 ct10), sl10⟩) (c10 : PySem.W.codeIn K cd10 "one_behind_other" = true) (k10 : PySem.W.keepIn K (.ref f10) = true)
    {f11 : Addr} {od11 an11 : Option Addr} {sl11 : Array (Option Value)} {oc11 kV11 dc11 pm11 cd11 ct11 : Value}
    (a11 : PySem.W.nsIn K mainGlobals "lay" = some (some (.ref f11))) (l11 : K.lookup f11 = some ⟨oc11, od11, .func (PySem.W.fnOf "lay" "lay" (defArgs s_lay) (defBody s_lay) (defScope s_lay) .none kV11 dc11 pm11 an11 cd11 ct11), sl11⟩) (c11 : PySem.W.codeIn K cd11 "lay" = true) (k11 : PySem.W.keepIn K (.ref f11) = true)
    {f12 : Addr} {od12 an12 : Option Addr} {sl12 : Array (Option Value)} {oc12 kV12 dc12 pm12 cd12 ct12 : Value}
    (a12 : PySem.W.nsIn K mainGlobals "name_of" = some (some (.ref f12))) (l12 : K.lookup f12 = some ⟨oc12, od12, .func (PySem.W.fnOf "name_of" "name_of" (defArgs s_name_of) (defBody s_name_of) (defScope s_name_of) .none kV12 dc12 pm12 an12 cd12 ct12), sl12⟩) (c12 : PySem.W.codeIn K cd12 "name_of" = true) (k12 : PySem.W.keepIn K (.ref f12) = true)
    {f13 : Addr} {od13 an13 : Option Addr} {sl13 : Array (Option Value)} {oc13 kV13 dc13 pm13 cd13 ct13 : Value}
    (a13 : PySem.W.nsIn K mainGlobals "laid_thing" = some (some (.ref f13))) (l13 : K.lookup f13 = some ⟨oc13, od13, .func (PySem.W.fnOf "laid_thing" "laid_thing" (defArgs s_laid_thing) (defBody s_laid_thing) (defScope s_laid_thing) .none kV13 dc13 pm13 an13 cd13 ct13), sl13⟩) (c13 : PySem.W.codeIn K cd13 "laid_thing" = true) (k13 : PySem.W.keepIn K (.ref f13) = true)
    {f14 : Addr} {od14 an14 : Option Addr} {sl14 : Array (Option Value)} {oc14 kV14 dc14 pm14 cd14 ct14 : Value}
    (a14 : PySem.W.nsIn K mainGlobals "laid_out" = some (some (.ref f14))) (l14 : K.lookup f14 = some ⟨oc14, od14, .func (PySem.W.fnOf "laid_out" "laid_out" (defArgs s_laid_out) (defBody s_laid_out) (defScope s_laid_out) .none kV14 dc14 pm14 an14 cd14 ct14), sl14⟩) (c14 : PySem.W.codeIn K cd14 "laid_out" = true) (k14 : PySem.W.keepIn K (.ref f14) = true)
    {f15 : Addr} {od15 an15 : Option Addr} {sl15 : Array (Option Value)} {oc15 kV15 dc15 pm15 cd15 ct15 : Value}
    (a15 : PySem.W.nsIn K mainGlobals "_law_cell" = some (some (.ref f15))) (l15 : K.lookup f15 = some ⟨oc15, od15, .func (PySem.W.fnOf "_law_cell" "_law_cell" (defArgs s__law_cell) (defBody s__law_cell) (defScope s__law_cell) .none kV15 dc15 pm15 an15 cd15 ct15), sl15⟩) (c15 : PySem.W.codeIn K cd15 "_law_cell" = true) (k15 : PySem.W.keepIn K (.ref f15) = true)
    {f16 : Addr} {od16 an16 : Option Addr} {sl16 : Array (Option Value)} {oc16 kV16 dc16 pm16 cd16 ct16 : Value}
    (a16 : PySem.W.nsIn K mainGlobals "_law_mixed" = some (some (.ref f16))) (l16 : K.lookup f16 = some ⟨oc16, od16, .func (PySem.W.fnOf "_law_mixed" "_law_mixed" (defArgs s__law_mixed) (defBody s__law_mixed) (defScope s__law_mixed) .none kV16 dc16 pm16 an16 cd16 ct16), sl16⟩) (c16 : PySem.W.codeIn K cd16 "_law_mixed" = true) (k16 : PySem.W.keepIn K (.ref f16) = true)
    {f17 : Addr} {od17 an17 : Option Addr} {sl17 : Array (Option Value)} {oc17 kV17 dc17 pm17 cd17 ct17 : Value}
    (a17 : PySem.W.nsIn K mainGlobals "_law_deck" = some (some (.ref f17))) (l17 : K.lookup f17 = some ⟨oc17, od17, .func (PySem.W.fnOf "_law_deck" "_law_deck" (defArgs s__law_deck) (defBody s__law_deck) (defScope s__law_deck) .none kV17 dc17 pm17 an17 cd17 ct17), sl17⟩) (c17 : PySem.W.codeIn K cd17 "_law_deck" = true) (k17 : PySem.W.keepIn K (.ref f17) = true)
    {f18 : Addr} {od18 an18 : Option Addr} {sl18 : Array (Option Value)} {oc18 kV18 dc18 pm18 cd18 ct18 : Value}
    (a18 : PySem.W.nsIn K mainGlobals "_law_take" = some (some (.ref f18))) (l18 : K.lookup f18 = some ⟨oc18, od18, .func (PySem.W.fnOf "_law_take" "_law_take" (defArgs s__law_take) (defBody s__law_take) (defScope s__law_take) .none kV18 dc18 pm18 an18 cd18 ct18), sl18⟩) (c18 : PySem.W.codeIn K cd18 "_law_take" = true) (k18 : PySem.W.keepIn K (.ref f18) = true)
    {f19 : Addr} {od19 an19 : Option Addr} {sl19 : Array (Option Value)} {oc19 kV19 dc19 pm19 cd19 ct19 : Value}
    (a19 : PySem.W.nsIn K mainGlobals "_law_alike" = some (some (.ref f19))) (l19 : K.lookup f19 = some ⟨oc19, od19, .func (PySem.W.fnOf "_law_alike" "_law_alike" (defArgs s__law_alike) (defBody s__law_alike) (defScope s__law_alike) .none kV19 dc19 pm19 an19 cd19 ct19), sl19⟩) (c19 : PySem.W.codeIn K cd19 "_law_alike" = true) (k19 : PySem.W.keepIn K (.ref f19) = true)
    {f20 : Addr} {od20 an20 : Option Addr} {sl20 : Array (Option Value)} {oc20 kV20 dc20 pm20 cd20 ct20 : Value}
    (a20 : PySem.W.nsIn K mainGlobals "_law_gcd" = some (some (.ref f20))) (l20 : K.lookup f20 = some ⟨oc20, od20, .func (PySem.W.fnOf "_law_gcd" "_law_gcd" (defArgs s__law_gcd) (defBody s__law_gcd) (defScope s__law_gcd) .none kV20 dc20 pm20 an20 cd20 ct20), sl20⟩) (c20 : PySem.W.codeIn K cd20 "_law_gcd" = true) (k20 : PySem.W.keepIn K (.ref f20) = true)
    {f21 : Addr} {od21 an21 : Option Addr} {sl21 : Array (Option Value)} {oc21 kV21 dc21 pm21 cd21 ct21 : Value}
    (a21 : PySem.W.nsIn K mainGlobals "_law_frac" = some (some (.ref f21))) (l21 : K.lookup f21 = some ⟨oc21, od21, .func (PySem.W.fnOf "_law_frac" "_law_frac" (defArgs s__law_frac) (defBody s__law_frac) (defScope s__law_frac) .none kV21 dc21 pm21 an21 cd21 ct21), sl21⟩) (c21 : PySem.W.codeIn K cd21 "_law_frac" = true) (k21 : PySem.W.keepIn K (.ref f21) = true)
    {f22 : Addr} {od22 an22 : Option Addr} {sl22 : Array (Option Value)} {oc22 kV22 dc22 pm22 cd22 ct22 : Value}
    (a22 : PySem.W.nsIn K mainGlobals "_law_plus" = some (some (.ref f22))) (l22 : K.lookup f22 = some ⟨oc22, od22, .func (PySem.W.fnOf "_law_plus" "_law_plus" (defArgs s__law_plus) (defBody s__law_plus) (defScope s__law_plus) .none kV22 dc22 pm22 an22 cd22 ct22), sl22⟩) (c22 : PySem.W.codeIn K cd22 "_law_plus" = true) (k22 : PySem.W.keepIn K (.ref f22) = true)
    {f23 : Addr} {od23 an23 : Option Addr} {sl23 : Array (Option Value)} {oc23 kV23 dc23 pm23 cd23 ct23 : Value}
    (a23 : PySem.W.nsIn K mainGlobals "_law_times" = some (some (.ref f23))) (l23 : K.lookup f23 = some ⟨oc23, od23, .func (PySem.W.fnOf "_law_times" "_law_times" (defArgs s__law_times) (defBody s__law_times) (defScope s__law_times) .none kV23 dc23 pm23 an23 cd23 ct23), sl23⟩) (c23 : PySem.W.codeIn K cd23 "_law_times" = true) (k23 : PySem.W.keepIn K (.ref f23) = true)
    {f24 : Addr} {od24 an24 : Option Addr} {sl24 : Array (Option Value)} {oc24 kV24 dc24 pm24 cd24 ct24 : Value}
    (a24 : PySem.W.nsIn K mainGlobals "_law_added" = some (some (.ref f24))) (l24 : K.lookup f24 = some ⟨oc24, od24, .func (PySem.W.fnOf "_law_added" "_law_added" (defArgs s__law_added) (defBody s__law_added) (defScope s__law_added) .none kV24 dc24 pm24 an24 cd24 ct24), sl24⟩) (c24 : PySem.W.codeIn K cd24 "_law_added" = true) (k24 : PySem.W.keepIn K (.ref f24) = true)
    {f25 : Addr} {od25 an25 : Option Addr} {sl25 : Array (Option Value)} {oc25 kV25 dc25 pm25 cd25 ct25 : Value}
    (a25 : PySem.W.nsIn K mainGlobals "_law_many" = some (some (.ref f25))) (l25 : K.lookup f25 = some ⟨oc25, od25, .func (PySem.W.fnOf "_law_many" "_law_many" (defArgs s__law_many) (defBody s__law_many) (defScope s__law_many) .none kV25 dc25 pm25 an25 cd25 ct25), sl25⟩) (c25 : PySem.W.codeIn K cd25 "_law_many" = true) (k25 : PySem.W.keepIn K (.ref f25) = true)
    {f26 : Addr} {od26 an26 : Option Addr} {sl26 : Array (Option Value)} {oc26 kV26 dc26 pm26 cd26 ct26 : Value}
    (a26 : PySem.W.nsIn K mainGlobals "_law_number" = some (some (.ref f26))) (l26 : K.lookup f26 = some ⟨oc26, od26, .func (PySem.W.fnOf "_law_number" "_law_number" (defArgs s__law_number) (defBody s__law_number) (defScope s__law_number) .none kV26 dc26 pm26 an26 cd26 ct26), sl26⟩) (c26 : PySem.W.codeIn K cd26 "_law_number" = true) (k26 : PySem.W.keepIn K (.ref f26) = true)
    {f27 : Addr} {od27 an27 : Option Addr} {sl27 : Array (Option Value)} {oc27 kV27 dc27 pm27 cd27 ct27 : Value}
    (a27 : PySem.W.nsIn K mainGlobals "_law_point" = some (some (.ref f27))) (l27 : K.lookup f27 = some ⟨oc27, od27, .func (PySem.W.fnOf "_law_point" "_law_point" (defArgs s__law_point) (defBody s__law_point) (defScope s__law_point) .none kV27 dc27 pm27 an27 cd27 ct27), sl27⟩) (c27 : PySem.W.codeIn K cd27 "_law_point" = true) (k27 : PySem.W.keepIn K (.ref f27) = true)
    {f28 : Addr} {od28 an28 : Option Addr} {sl28 : Array (Option Value)} {oc28 kV28 dc28 pm28 cd28 ct28 : Value}
    (a28 : PySem.W.nsIn K mainGlobals "_law_size" = some (some (.ref f28))) (l28 : K.lookup f28 = some ⟨oc28, od28, .func (PySem.W.fnOf "_law_size" "_law_size" (defArgs s__law_size) (defBody s__law_size) (defScope s__law_size) .none kV28 dc28 pm28 an28 cd28 ct28), sl28⟩) (c28 : PySem.W.codeIn K cd28 "_law_size" = true) (k28 : PySem.W.keepIn K (.ref f28) = true)
    {f29 : Addr} {od29 an29 : Option Addr} {sl29 : Array (Option Value)} {oc29 kV29 dc29 pm29 cd29 ct29 : Value}
    (a29 : PySem.W.nsIn K mainGlobals "_law_base" = some (some (.ref f29))) (l29 : K.lookup f29 = some ⟨oc29, od29, .func (PySem.W.fnOf "_law_base" "_law_base" (defArgs s__law_base) (defBody s__law_base) (defScope s__law_base) .none kV29 dc29 pm29 an29 cd29 ct29), sl29⟩) (c29 : PySem.W.codeIn K cd29 "_law_base" = true) (k29 : PySem.W.keepIn K (.ref f29) = true)
    {f30 : Addr} {od30 an30 : Option Addr} {sl30 : Array (Option Value)} {oc30 kV30 dc30 pm30 cd30 ct30 : Value}
    (a30 : PySem.W.nsIn K mainGlobals "_law_right" = some (some (.ref f30))) (l30 : K.lookup f30 = some ⟨oc30, od30, .func (PySem.W.fnOf "_law_right" "_law_right" (defArgs s__law_right) (defBody s__law_right) (defScope s__law_right) .none kV30 dc30 pm30 an30 cd30 ct30), sl30⟩) (c30 : PySem.W.codeIn K cd30 "_law_right" = true) (k30 : PySem.W.keepIn K (.ref f30) = true)
    {f31 : Addr} {od31 an31 : Option Addr} {sl31 : Array (Option Value)} {oc31 kV31 dc31 pm31 cd31 ct31 : Value}
    (a31 : PySem.W.nsIn K mainGlobals "law" = some (some (.ref f31))) (l31 : K.lookup f31 = some ⟨oc31, od31, .func (PySem.W.fnOf "law" "law" (defArgs s_law) (defBody s_law) (defScope s_law) .none kV31 dc31 pm31 an31 cd31 ct31), sl31⟩) (c31 : PySem.W.codeIn K cd31 "law" = true) (k31 : PySem.W.keepIn K (.ref f31) = true)
    (z0 : PySem.W.nsIn K mainGlobals "abs" = some none)
    (z1 : PySem.W.nsIn K mainGlobals "bool" = some none)
    (z2 : PySem.W.nsIn K mainGlobals "int" = some none)
    (z3 : PySem.W.nsIn K mainGlobals "isinstance" = some none)
    (z4 : PySem.W.nsIn K mainGlobals "len" = some none)
    (z5 : PySem.W.nsIn K mainGlobals "range" = some none)
    (z6 : PySem.W.nsIn K mainGlobals "str" = some none)
    (z7 : PySem.W.nsIn K mainGlobals "tuple" = some none)
    (z8 : PySem.W.nsIn K mainGlobals "zip" = some none)
    : ∃ fd : FuncData, (∀ (s : Shared) (v : Value), BindsTo s fd ⟨[v], []⟩ [("_law_script", v)]) ∧ ∀ base : Heap, K.In base → base.Ns mainGlobals mg → FnOk l.prog w K mg base CX0 22 fa fd ["_law_script"] (sp_law K) := by
  have e := hfa.symm.trans (PySem.W.mg_of X G a31)
  cases e
  have F0 := fun_mk (st := s_frac) l0 c0 k0
  have b0 := F0.binds (ps := ["above", "below"]) fun _ _ _ _ _ _ us hl => match us, hl with | [_, _], _ => rfl
  have F1 := fun_mk (st := s_plus) l1 c1 k1
  have b1 := F1.binds (ps := ["one", "other"]) fun _ _ _ _ _ _ us hl => match us, hl with | [_, _], _ => rfl
  have F2 := fun_mk (st := s_minus) l2 c2 k2
  have b2 := F2.binds (ps := ["one", "other"]) fun _ _ _ _ _ _ us hl => match us, hl with | [_, _], _ => rfl
  have F3 := fun_mk (st := s_times) l3 c3 k3
  have b3 := F3.binds (ps := ["one", "other"]) fun _ _ _ _ _ _ us hl => match us, hl with | [_, _], _ => rfl
  have F4 := fun_mk (st := s_dot) l4 c4 k4
  have b4 := F4.binds (ps := ["one", "other"]) fun _ _ _ _ _ _ us hl => match us, hl with | [_, _], _ => rfl
  have F5 := fun_mk (st := s_together) l5 c5 k5
  have b5 := F5.binds (ps := ["one", "other"]) fun _ _ _ _ _ _ us hl => match us, hl with | [_, _], _ => rfl
  have F6 := fun_mk (st := s_stretched) l6 c6 k6
  have b6 := F6.binds (ps := ["way", "by"]) fun _ _ _ _ _ _ us hl => match us, hl with | [_, _], _ => rfl
  have F7 := fun_mk (st := s_turned) l7 c7 k7
  have b7 := F7.binds (ps := ["turn", "way"]) fun _ _ _ _ _ _ us hl => match us, hl with | [_, _], _ => rfl
  have F8 := fun_mk (st := s_columns_of) l8 c8 k8
  have b8 := F8.binds (ps := ["turn"]) fun _ _ _ _ _ _ us hl => match us, hl with | [_], _ => rfl
  have F9 := fun_mk (st := s_turn_about) l9 c9 k9
  have b9 := F9.binds (ps := ["axis", "cosine", "sine"]) fun _ _ _ _ _ _ us hl => match us, hl with | [_, _, _], _ => rfl
  have F10 := fun_mk (st := s_one_behind_other) l10 c10 k10
  have b10 := F10.binds (ps := ["outer", "inner"]) fun _ _ _ _ _ _ us hl => match us, hl with | [_, _], _ => rfl
  have F11 := fun_mk (st := s_lay) l11 c11 k11
  have b11 := F11.binds (ps := ["bodies", "number", "turn", "slide", "leaves"]) fun _ _ _ _ _ _ us hl => match us, hl with | [_, _, _, _, _], _ => rfl
  have F12 := fun_mk (st := s_name_of) l12 c12 k12
  have b12 := F12.binds (ps := ["scene", "thing"]) fun _ _ _ _ _ _ us hl => match us, hl with | [_, _], _ => rfl
  have F13 := fun_mk (st := s_laid_thing) l13 c13 k13
  have b13 := F13.binds (ps := ["scene", "thing", "moment"]) fun _ _ _ _ _ _ us hl => match us, hl with | [_, _, _], _ => rfl
  have F14 := fun_mk (st := s_laid_out) l14 c14 k14
  have b14 := F14.binds (ps := ["scene", "name", "moment"]) fun _ _ _ _ _ _ us hl => match us, hl with | [_, _, _], _ => rfl
  have F15 := fun_mk (st := s__law_cell) l15 c15 k15
  have b15 := F15.binds (ps := ["_law_script", "_law_k"]) fun _ _ _ _ _ _ us hl => match us, hl with | [_, _], _ => rfl
  have F16 := fun_mk (st := s__law_mixed) l16 c16 k16
  have b16 := F16.binds (ps := ["_law_script", "_law_k", "_law_many_here"]) fun _ _ _ _ _ _ us hl => match us, hl with | [_, _, _], _ => rfl
  have F17 := fun_mk (st := s__law_deck) l17 c17 k17
  have b17 := F17.binds (ps := ["_law_script"]) fun _ _ _ _ _ _ us hl => match us, hl with | [_], _ => rfl
  have F18 := fun_mk (st := s__law_take) l18 c18 k18
  have b18 := F18.binds (ps := ["_law_deck_here", "_law_many_here"]) fun _ _ _ _ _ _ us hl => match us, hl with | [_, _], _ => rfl
  have F19 := fun_mk (st := s__law_alike) l19 c19 k19
  have b19 := F19.binds (ps := ["_law_found", "_law_due"]) fun _ _ _ _ _ _ us hl => match us, hl with | [_, _], _ => rfl
  have F20 := fun_mk (st := s__law_gcd) l20 c20 k20
  have b20 := F20.binds (ps := ["_law_one", "_law_other"]) fun _ _ _ _ _ _ us hl => match us, hl with | [_, _], _ => rfl
  have F21 := fun_mk (st := s__law_frac) l21 c21 k21
  have b21 := F21.binds (ps := ["_law_above", "_law_below"]) fun _ _ _ _ _ _ us hl => match us, hl with | [_, _], _ => rfl
  have F22 := fun_mk (st := s__law_plus) l22 c22 k22
  have b22 := F22.binds (ps := ["_law_one", "_law_other"]) fun _ _ _ _ _ _ us hl => match us, hl with | [_, _], _ => rfl
  have F23 := fun_mk (st := s__law_times) l23 c23 k23
  have b23 := F23.binds (ps := ["_law_one", "_law_other"]) fun _ _ _ _ _ _ us hl => match us, hl with | [_, _], _ => rfl
  have F24 := fun_mk (st := s__law_added) l24 c24 k24
  have b24 := F24.binds (ps := ["_law_one", "_law_other"]) fun _ _ _ _ _ _ us hl => match us, hl with | [_, _], _ => rfl
  have F25 := fun_mk (st := s__law_many) l25 c25 k25
  have b25 := F25.binds (ps := ["_law_point_here", "_law_number_here"]) fun _ _ _ _ _ _ us hl => match us, hl with | [_, _], _ => rfl
  have F26 := fun_mk (st := s__law_number) l26 c26 k26
  have b26 := F26.binds (ps := ["_law_deck_here"]) fun _ _ _ _ _ _ us hl => match us, hl with | [_], _ => rfl
  have F27 := fun_mk (st := s__law_point) l27 c27 k27
  have b27 := F27.binds (ps := ["_law_deck_here"]) fun _ _ _ _ _ _ us hl => match us, hl with | [_], _ => rfl
  have F28 := fun_mk (st := s__law_size) l28 c28 k28
  have b28 := F28.binds (ps := ["_law_deck_here"]) fun _ _ _ _ _ _ us hl => match us, hl with | [_], _ => rfl
  have F29 := fun_mk (st := s__law_base) l29 c29 k29
  have b29 := F29.binds (ps := ["_law_deck_here"]) fun _ _ _ _ _ _ us hl => match us, hl with | [_], _ => rfl
  have F30 := fun_mk (st := s__law_right) l30 c30 k30
  have b30 := F30.binds (ps := ["_law_scene", "_law_thing", "_law_moment"]) fun _ _ _ _ _ _ us hl => match us, hl with | [_, _, _], _ => rfl
  have F31 := fun_mk (st := s_law) l31 c31 k31
  have T : Tx K mg w := ⟨qK0, PySem.W.mg_of X G gK0, fun H => (dt_written kK0 (by show 2 ≤ sizeLine; decide) (.cons (.int (0)) (.cons (.int (1)) .nil)) (.cons ⟨_, rfl⟩ (.cons ⟨_, rfl⟩ .nil))), qK1, PySem.W.mg_of X G gK1, ⟨_, _, _, kK1, hK1, eK1_0, ⟨_, rfl⟩⟩, ⟨_, _, _, kK1, hK1, eK1_1, ⟨_, rfl⟩⟩, ⟨_, _, _, kK1, hK1, eK1_2, ⟨_, rfl⟩⟩, ⟨_, _, _, kK1, hK1, eK1_3, ⟨_, rfl⟩⟩, ⟨_, _, _, kK1, hK1, eK1_4, ⟨_, rfl⟩⟩, ⟨_, _, _, kK1, hK1, eK1_5, ⟨_, rfl⟩⟩, ⟨_, _, _, kK1, hK1, eK1_6, ⟨_, rfl⟩⟩, ⟨_, _, _, kK1, hK1, eK1_7, ⟨_, rfl⟩⟩, qK2, PySem.W.mg_of X G gK2, fun H => (dt_written kK2 (by show 2 ≤ sizeLine; decide) (.cons (.int (1)) (.cons (.int (1)) .nil)) (.cons ⟨_, rfl⟩ (.cons ⟨_, rfl⟩ .nil))), qK3, PySem.W.mg_of X G gK3, fun H => (dt_written kK3 (by show 3 ≤ sizeLine; decide) (.cons (dt_written kK3_0 (by show 3 ≤ sizeLine; decide) (.cons (dt_written kK3_0_0 (by show 2 ≤ sizeLine; decide) (.cons (.int (1)) (.cons (.int (1)) .nil)) (.cons ⟨_, rfl⟩ (.cons ⟨_, rfl⟩ .nil))) (.cons (dt_written kK3_0_1 (by show 2 ≤ sizeLine; decide) (.cons (.int (0)) (.cons (.int (1)) .nil)) (.cons ⟨_, rfl⟩ (.cons ⟨_, rfl⟩ .nil))) (.cons (dt_written kK3_0_2 (by show 2 ≤ sizeLine; decide) (.cons (.int (0)) (.cons (.int (1)) .nil)) (.cons ⟨_, rfl⟩ (.cons ⟨_, rfl⟩ .nil))) .nil))) (.cons rfl (.cons rfl (.cons rfl .nil)))) (.cons (dt_written kK3_1 (by show 3 ≤ sizeLine; decide) (.cons (dt_written kK3_1_0 (by show 2 ≤ sizeLine; decide) (.cons (.int (0)) (.cons (.int (1)) .nil)) (.cons ⟨_, rfl⟩ (.cons ⟨_, rfl⟩ .nil))) (.cons (dt_written kK3_1_1 (by show 2 ≤ sizeLine; decide) (.cons (.int (1)) (.cons (.int (1)) .nil)) (.cons ⟨_, rfl⟩ (.cons ⟨_, rfl⟩ .nil))) (.cons (dt_written kK3_1_2 (by show 2 ≤ sizeLine; decide) (.cons (.int (0)) (.cons (.int (1)) .nil)) (.cons ⟨_, rfl⟩ (.cons ⟨_, rfl⟩ .nil))) .nil))) (.cons rfl (.cons rfl (.cons rfl .nil)))) (.cons (dt_written kK3_2 (by show 3 ≤ sizeLine; decide) (.cons (dt_written kK3_2_0 (by show 2 ≤ sizeLine; decide) (.cons (.int (0)) (.cons (.int (1)) .nil)) (.cons ⟨_, rfl⟩ (.cons ⟨_, rfl⟩ .nil))) (.cons (dt_written kK3_2_1 (by show 2 ≤ sizeLine; decide) (.cons (.int (0)) (.cons (.int (1)) .nil)) (.cons ⟨_, rfl⟩ (.cons ⟨_, rfl⟩ .nil))) (.cons (dt_written kK3_2_2 (by show 2 ≤ sizeLine; decide) (.cons (.int (1)) (.cons (.int (1)) .nil)) (.cons ⟨_, rfl⟩ (.cons ⟨_, rfl⟩ .nil))) .nil))) (.cons rfl (.cons rfl (.cons rfl .nil)))) .nil))) (.cons rfl (.cons rfl (.cons rfl .nil)))), f0, _, F0, b0, PySem.W.mg_of X G a0, f1, _, F1, b1, PySem.W.mg_of X G a1, f2, _, F2, b2, PySem.W.mg_of X G a2, f3, _, F3, b3, PySem.W.mg_of X G a3, f4, _, F4, b4, PySem.W.mg_of X G a4, f5, _, F5, b5, PySem.W.mg_of X G a5, f6, _, F6, b6, PySem.W.mg_of X G a6, f7, _, F7, b7, PySem.W.mg_of X G a7, f8, _, F8, b8, PySem.W.mg_of X G a8, f9, _, F9, b9, PySem.W.mg_of X G a9, f10, _, F10, b10, PySem.W.mg_of X G a10, f11, _, F11, b11, PySem.W.mg_of X G a11, f12, _, F12, b12, PySem.W.mg_of X G a12, f13, _, F13, b13, PySem.W.mg_of X G a13, f14, _, F14, b14, PySem.W.mg_of X G a14, f15, _, F15, b15, PySem.W.mg_of X G a15, f16, _, F16, b16, PySem.W.mg_of X G a16, f17, _, F17, b17, PySem.W.mg_of X G a17, f18, _, F18, b18, PySem.W.mg_of X G a18, f19, _, F19, b19, PySem.W.mg_of X G a19, f20, _, F20, b20, PySem.W.mg_of X G a20, f21, _, F21, b21, PySem.W.mg_of X G a21, f22, _, F22, b22, PySem.W.mg_of X G a22, f23, _, F23, b23, PySem.W.mg_of X G a23, f24, _, F24, b24, PySem.W.mg_of X G a24, f25, _, F25, b25, PySem.W.mg_of X G a25, f26, _, F26, b26, PySem.W.mg_of X G a26, f27, _, F27, b27, PySem.W.mg_of X G a27, f28, _, F28, b28, PySem.W.mg_of X G a28, f29, _, F29, b29, PySem.W.mg_of X G a29, f30, _, F30, b30, PySem.W.mg_of X G a30, PySem.W.mg_none_of X G z0, PySem.W.mg_none_of X G z1, PySem.W.mg_none_of X G z2, PySem.W.mg_none_of X G z3, PySem.W.mg_none_of X G z4, PySem.W.mg_none_of X G z5, PySem.W.mg_none_of X G z6, PySem.W.mg_none_of X G z7, PySem.W.mg_none_of X G z8⟩
  exact ⟨PySem.W.fnOf "law" "law" (defArgs s_law) (defBody s_law) (defScope s_law) .none kV31 dc31 pm31 an31 cd31 ct31, fun s v => .of_eq rfl, fun base _ _ => ok_law F31 T⟩
end Sc
open PySem PySem.W PyProof.Rows
set_option maxHeartbeats 0 in
theorem PySem.Challenge.cw_scenetongue_k23_single_bodies_laid_holds : PySem.Challenge.rw_scenetongue_k23_single_bodies_laid.Holds := by
  w_on; o_law; k_head; (case hw => w_witness2)
  k_fill
  refine L2.walk_of (l := PySem.Challenge.rw_scenetongue_k23_single_bodies_laid) (n := 63) (k := 22) (x := "_law_script") (CX := fun _ => L2.CX0) (sp := fun w => Sc.sp_law _) rfl (by decide) rfl ⟨rfl, by decide, by decide⟩ (fun w h Y => PySem.W.kIn_of Y) ?F (fun _ _ a ns hl _ hS => ⟨a, ns, rfl, hS, hl, fun _ => rfl⟩) (fun _ _ _ _ _ h => h)
  case F =>
    intro w mg fa h KX G hmg
    refine' Sc.all_mk KX G hmg ?kK0 ?gK0 ?gK1 ?kK1 ?hK1 ?eK1_0 ?eK1_1 ?eK1_2 ?eK1_3 ?eK1_4 ?eK1_5 ?eK1_6 ?eK1_7 ?kK2 ?gK2 ?kK3_0_0 ?kK3_0_1 ?kK3_0_2 ?kK3_0 ?kK3_1_0 ?kK3_1_1 ?kK3_1_2 ?kK3_1 ?kK3_2_0 ?kK3_2_1 ?kK3_2_2 ?kK3_2 ?kK3 ?gK3 ?a0 ?l0 ?c0 ?k0 ?a1 ?l1 ?c1 ?k1 ?a2 ?l2 ?c2 ?k2 ?a3 ?l3 ?c3 ?k3 ?a4 ?l4 ?c4 ?k4 ?a5 ?l5 ?c5 ?k5 ?a6 ?l6 ?c6 ?k6 ?a7 ?l7 ?c7 ?k7 ?a8 ?l8 ?c8 ?k8 ?a9 ?l9 ?c9 ?k9 ?a10 ?l10 ?c10 ?k10 ?a11 ?l11 ?c11 ?k11 ?a12 ?l12 ?c12 ?k12 ?a13 ?l13 ?c13 ?k13 ?a14 ?l14 ?c14 ?k14 ?a15 ?l15 ?c15 ?k15 ?a16 ?l16 ?c16 ?k16 ?a17 ?l17 ?c17 ?k17 ?a18 ?l18 ?c18 ?k18 ?a19 ?l19 ?c19 ?k19 ?a20 ?l20 ?c20 ?k20 ?a21 ?l21 ?c21 ?k21 ?a22 ?l22 ?c22 ?k22 ?a23 ?l23 ?c23 ?k23 ?a24 ?l24 ?c24 ?k24 ?a25 ?l25 ?c25 ?k25 ?a26 ?l26 ?c26 ?k26 ?a27 ?l27 ?c27 ?k27 ?a28 ?l28 ?c28 ?k28 ?a29 ?l29 ?c29 ?k29 ?a30 ?l30 ?c30 ?k30 ?a31 ?l31 ?c31 ?k31 ?z0 ?z1 ?z2 ?z3 ?z4 ?z5 ?z6 ?z7 ?z8
    (case gK0 => k_is); (case kK0 => k_is); (case gK1 => k_is); (case kK1 => k_is); (case hK1 => k_keys); (case eK1_0 => k_is); (case eK1_1 => k_is); (case eK1_2 => k_is); (case eK1_3 => k_is); (case eK1_4 => k_is); (case eK1_5 => k_is); (case eK1_6 => k_is); (case eK1_7 => k_is); (case gK2 => k_is); (case kK2 => k_is); (case gK3 => k_is); (case kK3 => k_is); (case kK3_2 => k_is); (case kK3_2_2 => k_is); (case kK3_2_1 => k_is); (case kK3_2_0 => k_is); (case kK3_1 => k_is); (case kK3_1_2 => k_is); (case kK3_1_1 => k_is); (case kK3_1_0 => k_is); (case kK3_0 => k_is); (case kK3_0_2 => k_is); (case kK3_0_1 => k_is); (case kK3_0_0 => k_is); (case a0 => k_is); (case l0 => k_is); (case c0 => k_is); (case k0 => k_is); (case a1 => k_is); (case l1 => k_is); (case c1 => k_is); (case k1 => k_is); (case a2 => k_is); (case l2 => k_is); (case c2 => k_is); (case k2 => k_is); (case a3 => k_is); (case l3 => k_is); (case c3 => k_is); (case k3 => k_is); (case a4 => k_is); (case l4 => k_is); (case c4 => k_is); (case k4 => k_is); (case a5 => k_is); (case l5 => k_is); (case c5 => k_is); (case k5 => k_is); (case a6 => k_is); (case l6 => k_is); (case c6 => k_is); (case k6 => k_is); (case a7 => k_is); (case l7 => k_is); (case c7 => k_is); (case k7 => k_is); (case a8 => k_is); (case l8 => k_is); (case c8 => k_is); (case k8 => k_is); (case a9 => k_is); (case l9 => k_is); (case c9 => k_is); (case k9 => k_is); (case a10 => k_is); (case l10 => k_is); (case c10 => k_is); (case k10 => k_is); (case a11 => k_is); (case l11 => k_is); (case c11 => k_is); (case k11 => k_is); (case a12 => k_is); (case l12 => k_is); (case c12 => k_is); (case k12 => k_is); (case a13 => k_is); (case l13 => k_is); (case c13 => k_is); (case k13 => k_is); (case a14 => k_is); (case l14 => k_is); (case c14 => k_is); (case k14 => k_is); (case a15 => k_is); (case l15 => k_is); (case c15 => k_is); (case k15 => k_is); (case a16 => k_is); (case l16 => k_is); (case c16 => k_is); (case k16 => k_is); (case a17 => k_is); (case l17 => k_is); (case c17 => k_is); (case k17 => k_is); (case a18 => k_is); (case l18 => k_is); (case c18 => k_is); (case k18 => k_is); (case a19 => k_is); (case l19 => k_is); (case c19 => k_is); (case k19 => k_is); (case a20 => k_is); (case l20 => k_is); (case c20 => k_is); (case k20 => k_is); (case a21 => k_is); (case l21 => k_is); (case c21 => k_is); (case k21 => k_is); (case a22 => k_is); (case l22 => k_is); (case c22 => k_is); (case k22 => k_is); (case a23 => k_is); (case l23 => k_is); (case c23 => k_is); (case k23 => k_is); (case a24 => k_is); (case l24 => k_is); (case c24 => k_is); (case k24 => k_is); (case a25 => k_is); (case l25 => k_is); (case c25 => k_is); (case k25 => k_is); (case a26 => k_is); (case l26 => k_is); (case c26 => k_is); (case k26 => k_is); (case a27 => k_is); (case l27 => k_is); (case c27 => k_is); (case k27 => k_is); (case a28 => k_is); (case l28 => k_is); (case c28 => k_is); (case k28 => k_is); (case a29 => k_is); (case l29 => k_is); (case c29 => k_is); (case k29 => k_is); (case a30 => k_is); (case l30 => k_is); (case c30 => k_is); (case k30 => k_is); (case a31 => k_is); (case l31 => k_is); (case c31 => k_is); (case k31 => k_is); (case z0 => k_is); (case z1 => k_is); (case z2 => k_is); (case z3 => k_is); (case z4 => k_is); (case z5 => k_is); (case z6 => k_is); (case z7 => k_is); (case z8 => k_is)
