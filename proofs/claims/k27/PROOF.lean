import PyProof.Rows.All
import Wide.All
import OpenK.AllK
import Wide.FinOn
import HandS.ForMost
import HandS.Wide
import HandS.WideBits
import HandS.IsInst
import HandS.Walk
import HandS.Zip
import HandS.Style
import HandS.Star
import HandS.More
import HandS.TupAny
import HandS.Comp
import HandS.NoneIn
import PySem.Challenge.RW_scenetongue_k27_whole_laid_by_walks
set_option Elab.async false
set_option linter.all false
set_option maxRecDepth 100000
set_option maxHeartbeats 4000000

namespace Sc
open PySem PySem.Spec PyProof.Rows L2

/-! ### data: tuples all through -/
/-- a tuple that stands for good: tracked, or of the written part -/
def TupAt (K : PySem.W.Frag) (H : Hp) (a : Addr) (xs : List V) : Prop := H a = some (.tup xs) ∨ ∀ H', SqT K H' a xs
mutual
inductive DT (K : PySem.W.Frag) (H : Hp) : V → PyData → Prop
  | non : DT K H .non .none
  | bl (b : Bool) : DT K H (.bl b) (.bool b)
  | int (i : Int) : DT K H (.int i) (.int i)
  | str (x : Str) : DT K H (.str x) (.str x)
  | tup {a : Addr} {xs : List V} {ds : List PyData} : TupAt K H a xs → DTs K H xs ds → DT K H (.ref a) (.tuple ds)
inductive DTs (K : PySem.W.Frag) (H : Hp) : List V → List PyData → Prop
  | nil : DTs K H [] []
  | cons {v : V} {vs : List V} {d : PyData} {ds : List PyData} : DT K H v d → DTs K H vs ds → DTs K H (v :: vs) (d :: ds)
end
theorem dt_written {K : PySem.W.Frag} {H : Hp} {q : Addr} {od : Option Addr} {its : Array Value} {n : Nat} {sl : Array (Option Value)} {xs : List V} {ds : List PyData}
    (k : K.lookup q = some ⟨.type "tuple", od, .seq its n, sl⟩) (hz : its.size ≤ sizeLine) (hd : DTs K H xs ds) (rel : Vals xs its.toList) : DT K H (.ref q) (.tuple ds) :=
  .tup (.inr fun _ => .inr ⟨_, its, n, k, rfl, rfl, hz, rel⟩) hd

def topS (i : Nat) : Stmt := PySem.Challenge.pw_scenetongue_k27_whole_laid_by_walks.main.body.getD i (.Pass ⟨0, 0, 0, 0⟩)
abbrev s_frac : Stmt := topS 2
abbrev nm_frac : List Str := ["above", "below", "shared", "rest"]
theorem sc_frac : FnScope nm_frac ["above", "below"] (defScope s_frac) := ⟨rfl, rfl, rfl, by decide +kernel, rfl, by decide +kernel, by decide +kernel⟩
abbrev s_plus : Stmt := topS 3
abbrev nm_plus : List Str := ["one", "other"]
theorem sc_plus : FnScope nm_plus ["one", "other"] (defScope s_plus) := ⟨rfl, rfl, rfl, by decide +kernel, rfl, by decide +kernel, by decide +kernel⟩
abbrev s_minus : Stmt := topS 4
abbrev nm_minus : List Str := ["one", "other"]
theorem sc_minus : FnScope nm_minus ["one", "other"] (defScope s_minus) := ⟨rfl, rfl, rfl, by decide +kernel, rfl, by decide +kernel, by decide +kernel⟩
abbrev s_times : Stmt := topS 5
abbrev nm_times : List Str := ["one", "other"]
theorem sc_times : FnScope nm_times ["one", "other"] (defScope s_times) := ⟨rfl, rfl, rfl, by decide +kernel, rfl, by decide +kernel, by decide +kernel⟩
abbrev s_dot : Stmt := topS 6
abbrev nm_dot : List Str := ["one", "other", "above", "below", "mine", "yours", "part"]
theorem sc_dot : FnScope nm_dot ["one", "other"] (defScope s_dot) := ⟨rfl, rfl, rfl, by decide +kernel, rfl, by decide +kernel, by decide +kernel⟩
abbrev s_together : Stmt := topS 8
abbrev nm_together : List Str := ["one", "other"]
theorem sc_together : FnScope nm_together ["one", "other"] (defScope s_together) := ⟨rfl, rfl, rfl, by decide +kernel, rfl, by decide +kernel, by decide +kernel⟩
abbrev s_stretched : Stmt := topS 9
abbrev nm_stretched : List Str := ["way", "by"]
theorem sc_stretched : FnScope nm_stretched ["way", "by"] (defScope s_stretched) := ⟨rfl, rfl, rfl, by decide +kernel, rfl, by decide +kernel, by decide +kernel⟩
abbrev s_turned : Stmt := topS 10
abbrev nm_turned : List Str := ["turn", "way"]
theorem sc_turned : FnScope nm_turned ["turn", "way"] (defScope s_turned) := ⟨rfl, rfl, rfl, by decide +kernel, rfl, by decide +kernel, by decide +kernel⟩
abbrev s_columns_of : Stmt := topS 11
abbrev nm_columns_of : List Str := ["turn"]
theorem sc_columns_of : FnScope nm_columns_of ["turn"] (defScope s_columns_of) := ⟨rfl, rfl, rfl, by decide +kernel, rfl, by decide +kernel, by decide +kernel⟩
abbrev s_turn_about : Stmt := topS 16
abbrev nm_turn_about : List Str := ["axis", "cosine", "sine", "back"]
theorem sc_turn_about : FnScope nm_turn_about ["axis", "cosine", "sine"] (defScope s_turn_about) := ⟨rfl, rfl, rfl, by decide +kernel, rfl, by decide +kernel, by decide +kernel⟩
abbrev s_one_behind_other : Stmt := topS 17
abbrev nm_one_behind_other : List Str := ["outer", "inner", "columns", "row"]
theorem sc_one_behind_other : FnScope nm_one_behind_other ["outer", "inner"] (defScope s_one_behind_other) := ⟨rfl, rfl, rfl, by decide +kernel, rfl, by decide +kernel, by decide +kernel⟩
abbrev s_lay : Stmt := topS 18
abbrev nm_lay : List Str := ["bodies", "number", "turn", "slide", "leaves", "name", "form", "word", "first", "second"]
theorem sc_lay : FnScope nm_lay ["bodies", "number", "turn", "slide", "leaves"] (defScope s_lay) := ⟨rfl, rfl, rfl, by decide +kernel, rfl, by decide +kernel, by decide +kernel⟩
abbrev s_name_of : Stmt := topS 19
abbrev nm_name_of : List Str := ["scene", "thing"]
theorem sc_name_of : FnScope nm_name_of ["scene", "thing"] (defScope s_name_of) := ⟨rfl, rfl, rfl, by decide +kernel, rfl, by decide +kernel, by decide +kernel⟩
abbrev s_laid_thing : Stmt := topS 20
abbrev nm_laid_thing : List Str := ["scene", "thing", "moment", "leaves", "shape"]
theorem sc_laid_thing : FnScope nm_laid_thing ["scene", "thing", "moment"] (defScope s_laid_thing) := ⟨rfl, rfl, rfl, by decide +kernel, rfl, by decide +kernel, by decide +kernel⟩
abbrev s_laid_out : Stmt := topS 21
abbrev nm_laid_out : List Str := ["scene", "name", "moment", "named", "thing"]
theorem sc_laid_out : FnScope nm_laid_out ["scene", "name", "moment"] (defScope s_laid_out) := ⟨rfl, rfl, rfl, by decide +kernel, rfl, by decide +kernel, by decide +kernel⟩
abbrev s__law_cell : Stmt := topS 23
abbrev nm__law_cell : List Str := ["_law_script", "_law_k"]
theorem sc__law_cell : FnScope nm__law_cell ["_law_script", "_law_k"] (defScope s__law_cell) := ⟨rfl, rfl, rfl, by decide +kernel, rfl, by decide +kernel, by decide +kernel⟩
abbrev s__law_mixed : Stmt := topS 24
abbrev nm__law_mixed : List Str := ["_law_script", "_law_k", "_law_many_here", "_law_drawn", "_law_low", "_law_number_here"]
theorem sc__law_mixed : FnScope nm__law_mixed ["_law_script", "_law_k", "_law_many_here"] (defScope s__law_mixed) := ⟨rfl, rfl, rfl, by decide +kernel, rfl, by decide +kernel, by decide +kernel⟩
abbrev s__law_deck : Stmt := topS 25
abbrev nm__law_deck : List Str := ["_law_script", "_law_one"]
theorem sc__law_deck : FnScope nm__law_deck ["_law_script"] (defScope s__law_deck) := ⟨rfl, rfl, rfl, by decide +kernel, rfl, by decide +kernel, by decide +kernel⟩
abbrev s__law_take : Stmt := topS 26
abbrev nm__law_take : List Str := ["_law_deck_here", "_law_many_here", "_law_drawn"]
theorem sc__law_take : FnScope nm__law_take ["_law_deck_here", "_law_many_here"] (defScope s__law_take) := ⟨rfl, rfl, rfl, by decide +kernel, rfl, by decide +kernel, by decide +kernel⟩
abbrev s__law_alike : Stmt := topS 27
abbrev nm__law_alike : List Str := ["_law_found", "_law_due", "_law_k"]
theorem sc__law_alike : FnScope nm__law_alike ["_law_found", "_law_due"] (defScope s__law_alike) := ⟨rfl, rfl, rfl, by decide +kernel, rfl, by decide +kernel, by decide +kernel⟩
abbrev s__law_gcd : Stmt := topS 28
abbrev nm__law_gcd : List Str := ["_law_one", "_law_other", "_law_rest"]
theorem sc__law_gcd : FnScope nm__law_gcd ["_law_one", "_law_other"] (defScope s__law_gcd) := ⟨rfl, rfl, rfl, by decide +kernel, rfl, by decide +kernel, by decide +kernel⟩
abbrev s__law_frac : Stmt := topS 29
abbrev nm__law_frac : List Str := ["_law_above", "_law_below", "_law_part"]
theorem sc__law_frac : FnScope nm__law_frac ["_law_above", "_law_below"] (defScope s__law_frac) := ⟨rfl, rfl, rfl, by decide +kernel, rfl, by decide +kernel, by decide +kernel⟩
abbrev s__law_plus : Stmt := topS 30
abbrev nm__law_plus : List Str := ["_law_one", "_law_other"]
theorem sc__law_plus : FnScope nm__law_plus ["_law_one", "_law_other"] (defScope s__law_plus) := ⟨rfl, rfl, rfl, by decide +kernel, rfl, by decide +kernel, by decide +kernel⟩
abbrev s__law_times : Stmt := topS 31
abbrev nm__law_times : List Str := ["_law_one", "_law_other"]
theorem sc__law_times : FnScope nm__law_times ["_law_one", "_law_other"] (defScope s__law_times) := ⟨rfl, rfl, rfl, by decide +kernel, rfl, by decide +kernel, by decide +kernel⟩
abbrev s__law_other_way : Stmt := topS 32
abbrev nm__law_other_way : List Str := ["_law_one"]
theorem sc__law_other_way : FnScope nm__law_other_way ["_law_one"] (defScope s__law_other_way) := ⟨rfl, rfl, rfl, by decide +kernel, rfl, by decide +kernel, by decide +kernel⟩
abbrev s__law_added : Stmt := topS 33
abbrev nm__law_added : List Str := ["_law_one", "_law_other", "_law_k"]
theorem sc__law_added : FnScope nm__law_added ["_law_one", "_law_other"] (defScope s__law_added) := ⟨rfl, rfl, rfl, by decide +kernel, rfl, by decide +kernel, by decide +kernel⟩
abbrev s__law_away : Stmt := topS 34
abbrev nm__law_away : List Str := ["_law_one", "_law_other", "_law_k"]
theorem sc__law_away : FnScope nm__law_away ["_law_one", "_law_other"] (defScope s__law_away) := ⟨rfl, rfl, rfl, by decide +kernel, rfl, by decide +kernel, by decide +kernel⟩
abbrev s__law_many : Stmt := topS 35
abbrev nm__law_many : List Str := ["_law_point_here", "_law_number_here", "_law_part"]
theorem sc__law_many : FnScope nm__law_many ["_law_point_here", "_law_number_here"] (defScope s__law_many) := ⟨rfl, rfl, rfl, by decide +kernel, rfl, by decide +kernel, by decide +kernel⟩
abbrev s__law_number : Stmt := topS 36
abbrev nm__law_number : List Str := ["_law_deck_here"]
theorem sc__law_number : FnScope nm__law_number ["_law_deck_here"] (defScope s__law_number) := ⟨rfl, rfl, rfl, by decide +kernel, rfl, by decide +kernel, by decide +kernel⟩
abbrev s__law_point : Stmt := topS 37
abbrev nm__law_point : List Str := ["_law_deck_here"]
theorem sc__law_point : FnScope nm__law_point ["_law_deck_here"] (defScope s__law_point) := ⟨rfl, rfl, rfl, by decide +kernel, rfl, by decide +kernel, by decide +kernel⟩
abbrev s__law_size : Stmt := topS 38
abbrev nm__law_size : List Str := ["_law_deck_here"]
theorem sc__law_size : FnScope nm__law_size ["_law_deck_here"] (defScope s__law_size) := ⟨rfl, rfl, rfl, by decide +kernel, rfl, by decide +kernel, by decide +kernel⟩
abbrev s__law_base : Stmt := topS 39
abbrev nm__law_base : List Str := ["_law_deck_here", "_law_kind", "_law_point_here"]
theorem sc__law_base : FnScope nm__law_base ["_law_deck_here"] (defScope s__law_base) := ⟨rfl, rfl, rfl, by decide +kernel, rfl, by decide +kernel, by decide +kernel⟩
abbrev s__law_turning : Stmt := topS 40
abbrev nm__law_turning : List Str := ["_law_deck_here", "_law_number_here", "_law_pairs", "_law_c", "_law_s"]
theorem sc__law_turning : FnScope nm__law_turning ["_law_deck_here", "_law_number_here"] (defScope s__law_turning) := ⟨rfl, rfl, rfl, by decide +kernel, rfl, by decide +kernel, by decide +kernel⟩
abbrev s__law_sliding : Stmt := topS 41
abbrev nm__law_sliding : List Str := ["_law_deck_here", "_law_number_here"]
theorem sc__law_sliding : FnScope nm__law_sliding ["_law_deck_here", "_law_number_here"] (defScope s__law_sliding) := ⟨rfl, rfl, rfl, by decide +kernel, rfl, by decide +kernel, by decide +kernel⟩
abbrev s__law_applied : Stmt := topS 42
abbrev nm__law_applied : List Str := ["_law_form", "_law_point_here", "_law_x", "_law_y", "_law_z", "_law_c", "_law_s", "_law_back_s"]
theorem sc__law_applied : FnScope nm__law_applied ["_law_form", "_law_point_here"] (defScope s__law_applied) := ⟨rfl, rfl, rfl, by decide +kernel, rfl, by decide +kernel, by decide +kernel⟩
abbrev s__law_walk : Stmt := topS 43
abbrev nm__law_walk : List Str := ["_law_bodies_here", "_law_number_here", "_law_form", "_law_leaves", "_law_shape", "_law_others", "_law_there", "_law_part", "_law_leaf_here", "_law_ways"]
theorem sc__law_walk : FnScope nm__law_walk ["_law_bodies_here", "_law_number_here"] (defScope s__law_walk) := ⟨rfl, rfl, rfl, by decide +kernel, rfl, by decide +kernel, by decide +kernel⟩
abbrev s__law_stands : Stmt := topS 44
abbrev nm__law_stands : List Str := ["_law_ways", "_law_point_here", "_law_form"]
theorem sc__law_stands : FnScope nm__law_stands ["_law_ways", "_law_point_here"] (defScope s__law_stands) := ⟨rfl, rfl, rfl, by decide +kernel, rfl, by decide +kernel, by decide +kernel⟩
abbrev s__law_leaf : Stmt := topS 45
abbrev nm__law_leaf : List Str := ["_law_bodies_here", "_law_leaf_here", "_law_ways", "_law_far", "_law_nought", "_law_one", "_law_slide", "_law_images", "_law_point_here", "_law_turn", "_law_k"]
theorem sc__law_leaf : FnScope nm__law_leaf ["_law_bodies_here", "_law_leaf_here", "_law_ways", "_law_far"] (defScope s__law_leaf) := ⟨rfl, rfl, rfl, by decide +kernel, rfl, by decide +kernel, by decide +kernel⟩
abbrev s__law_laid : Stmt := topS 46
abbrev nm__law_laid : List Str := ["_law_bodies_here", "_law_number_here", "_law_far", "_law_leaves", "_law_shape", "_law_leaf_here", "_law_ways"]
theorem sc__law_laid : FnScope nm__law_laid ["_law_bodies_here", "_law_number_here", "_law_far"] (defScope s__law_laid) := ⟨rfl, rfl, rfl, by decide +kernel, rfl, by decide +kernel, by decide +kernel⟩
abbrev s__law_bodies : Stmt := topS 47
abbrev nm__law_bodies : List Str := ["_law_deck_here", "_law_bases", "_law_more", "_law_bodies_here", "_law_counts", "_law_k", "_law_one", "_law_other", "_law_way", "_law_name", "_law_pair"]
theorem sc__law_bodies : FnScope nm__law_bodies ["_law_deck_here", "_law_bases", "_law_more"] (defScope s__law_bodies) := ⟨rfl, rfl, rfl, by decide +kernel, rfl, by decide +kernel, by decide +kernel⟩
abbrev s_law : Stmt := topS 48
abbrev nm_law : List Str := ["_law_script", "_law_deck_here", "_law_bodies_here", "_law_things", "_law_seen", "_law_k", "_law_number_here", "_law_scene", "_law_colour", "_law_mirror", "_law_move", "_law_moment", "_law_due"]
theorem sc_law : FnScope nm_law ["_law_script"] (defScope s_law) := ⟨rfl, rfl, rfl, by decide +kernel, rfl, by decide +kernel, by decide +kernel⟩
structure Tx (K : PySem.W.Frag) (mg : Str → Option Value) (w : World) where
  a_NOUGHT : Addr
  g_NOUGHT : mg "NOUGHT" = some (.ref a_NOUGHT)
  k_NOUGHT : ∀ H, DT K H (.ref a_NOUGHT) (.tuple [(.int 0), (.int 1)])
  a_SPOKEN_OF : Addr
  g_SPOKEN_OF : mg "SPOKEN_OF" = some (.ref a_SPOKEN_OF)
  k_SPOKEN_OF_box : KDct K w a_SPOKEN_OF "box" (.int 0)
  k_SPOKEN_OF_ball : KDct K w a_SPOKEN_OF "ball" (.int 0)
  k_SPOKEN_OF_half : KDct K w a_SPOKEN_OF "half" (.int 0)
  k_SPOKEN_OF_join : KDct K w a_SPOKEN_OF "join" (.int 2)
  k_SPOKEN_OF_cut : KDct K w a_SPOKEN_OF "cut" (.int 2)
  k_SPOKEN_OF_meet : KDct K w a_SPOKEN_OF "meet" (.int 2)
  k_SPOKEN_OF_slide : KDct K w a_SPOKEN_OF "slide" (.int 1)
  k_SPOKEN_OF_turn : KDct K w a_SPOKEN_OF "turn" (.int 1)
  a_ONE : Addr
  g_ONE : mg "ONE" = some (.ref a_ONE)
  k_ONE : ∀ H, DT K H (.ref a_ONE) (.tuple [(.int 1), (.int 1)])
  a_UNTURNED : Addr
  g_UNTURNED : mg "UNTURNED" = some (.ref a_UNTURNED)
  k_UNTURNED : ∀ H, DT K H (.ref a_UNTURNED) (.tuple [(.tuple [(.tuple [(.int 1), (.int 1)]), (.tuple [(.int 0), (.int 1)]), (.tuple [(.int 0), (.int 1)])]), (.tuple [(.tuple [(.int 0), (.int 1)]), (.tuple [(.int 1), (.int 1)]), (.tuple [(.int 0), (.int 1)])]), (.tuple [(.tuple [(.int 0), (.int 1)]), (.tuple [(.int 0), (.int 1)]), (.tuple [(.int 1), (.int 1)])])])
  f_frac : Addr
  d_frac : FuncData
  F_frac : Fun K "frac" "frac" s_frac f_frac d_frac
  b_frac : Binds K d_frac ["above", "below"] []
  g_frac : mg "frac" = some (.ref f_frac)
  f_plus : Addr
  d_plus : FuncData
  F_plus : Fun K "plus" "plus" s_plus f_plus d_plus
  b_plus : Binds K d_plus ["one", "other"] []
  g_plus : mg "plus" = some (.ref f_plus)
  f_minus : Addr
  d_minus : FuncData
  F_minus : Fun K "minus" "minus" s_minus f_minus d_minus
  b_minus : Binds K d_minus ["one", "other"] []
  g_minus : mg "minus" = some (.ref f_minus)
  f_times : Addr
  d_times : FuncData
  F_times : Fun K "times" "times" s_times f_times d_times
  b_times : Binds K d_times ["one", "other"] []
  g_times : mg "times" = some (.ref f_times)
  f_dot : Addr
  d_dot : FuncData
  F_dot : Fun K "dot" "dot" s_dot f_dot d_dot
  b_dot : Binds K d_dot ["one", "other"] []
  g_dot : mg "dot" = some (.ref f_dot)
  f_together : Addr
  d_together : FuncData
  F_together : Fun K "together" "together" s_together f_together d_together
  b_together : Binds K d_together ["one", "other"] []
  g_together : mg "together" = some (.ref f_together)
  f_stretched : Addr
  d_stretched : FuncData
  F_stretched : Fun K "stretched" "stretched" s_stretched f_stretched d_stretched
  b_stretched : Binds K d_stretched ["way", "by"] []
  g_stretched : mg "stretched" = some (.ref f_stretched)
  f_turned : Addr
  d_turned : FuncData
  F_turned : Fun K "turned" "turned" s_turned f_turned d_turned
  b_turned : Binds K d_turned ["turn", "way"] []
  g_turned : mg "turned" = some (.ref f_turned)
  f_columns_of : Addr
  d_columns_of : FuncData
  F_columns_of : Fun K "columns_of" "columns_of" s_columns_of f_columns_of d_columns_of
  b_columns_of : Binds K d_columns_of ["turn"] []
  g_columns_of : mg "columns_of" = some (.ref f_columns_of)
  f_turn_about : Addr
  d_turn_about : FuncData
  F_turn_about : Fun K "turn_about" "turn_about" s_turn_about f_turn_about d_turn_about
  b_turn_about : Binds K d_turn_about ["axis", "cosine", "sine"] []
  g_turn_about : mg "turn_about" = some (.ref f_turn_about)
  f_one_behind_other : Addr
  d_one_behind_other : FuncData
  F_one_behind_other : Fun K "one_behind_other" "one_behind_other" s_one_behind_other f_one_behind_other d_one_behind_other
  b_one_behind_other : Binds K d_one_behind_other ["outer", "inner"] []
  g_one_behind_other : mg "one_behind_other" = some (.ref f_one_behind_other)
  f_lay : Addr
  d_lay : FuncData
  F_lay : Fun K "lay" "lay" s_lay f_lay d_lay
  b_lay : Binds K d_lay ["bodies", "number", "turn", "slide", "leaves"] []
  g_lay : mg "lay" = some (.ref f_lay)
  f_name_of : Addr
  d_name_of : FuncData
  F_name_of : Fun K "name_of" "name_of" s_name_of f_name_of d_name_of
  b_name_of : Binds K d_name_of ["scene", "thing"] []
  g_name_of : mg "name_of" = some (.ref f_name_of)
  f_laid_thing : Addr
  d_laid_thing : FuncData
  F_laid_thing : Fun K "laid_thing" "laid_thing" s_laid_thing f_laid_thing d_laid_thing
  b_laid_thing : Binds K d_laid_thing ["scene", "thing", "moment"] []
  g_laid_thing : mg "laid_thing" = some (.ref f_laid_thing)
  f_laid_out : Addr
  d_laid_out : FuncData
  F_laid_out : Fun K "laid_out" "laid_out" s_laid_out f_laid_out d_laid_out
  b_laid_out : Binds K d_laid_out ["scene", "name", "moment"] []
  g_laid_out : mg "laid_out" = some (.ref f_laid_out)
  f__law_cell : Addr
  d__law_cell : FuncData
  F__law_cell : Fun K "_law_cell" "_law_cell" s__law_cell f__law_cell d__law_cell
  b__law_cell : Binds K d__law_cell ["_law_script", "_law_k"] []
  g__law_cell : mg "_law_cell" = some (.ref f__law_cell)
  f__law_mixed : Addr
  d__law_mixed : FuncData
  F__law_mixed : Fun K "_law_mixed" "_law_mixed" s__law_mixed f__law_mixed d__law_mixed
  b__law_mixed : Binds K d__law_mixed ["_law_script", "_law_k", "_law_many_here"] []
  g__law_mixed : mg "_law_mixed" = some (.ref f__law_mixed)
  f__law_deck : Addr
  d__law_deck : FuncData
  F__law_deck : Fun K "_law_deck" "_law_deck" s__law_deck f__law_deck d__law_deck
  b__law_deck : Binds K d__law_deck ["_law_script"] []
  g__law_deck : mg "_law_deck" = some (.ref f__law_deck)
  f__law_take : Addr
  d__law_take : FuncData
  F__law_take : Fun K "_law_take" "_law_take" s__law_take f__law_take d__law_take
  b__law_take : Binds K d__law_take ["_law_deck_here", "_law_many_here"] []
  g__law_take : mg "_law_take" = some (.ref f__law_take)
  f__law_alike : Addr
  d__law_alike : FuncData
  F__law_alike : Fun K "_law_alike" "_law_alike" s__law_alike f__law_alike d__law_alike
  b__law_alike : Binds K d__law_alike ["_law_found", "_law_due"] []
  g__law_alike : mg "_law_alike" = some (.ref f__law_alike)
  f__law_gcd : Addr
  d__law_gcd : FuncData
  F__law_gcd : Fun K "_law_gcd" "_law_gcd" s__law_gcd f__law_gcd d__law_gcd
  b__law_gcd : Binds K d__law_gcd ["_law_one", "_law_other"] []
  g__law_gcd : mg "_law_gcd" = some (.ref f__law_gcd)
  f__law_frac : Addr
  d__law_frac : FuncData
  F__law_frac : Fun K "_law_frac" "_law_frac" s__law_frac f__law_frac d__law_frac
  b__law_frac : Binds K d__law_frac ["_law_above", "_law_below"] []
  g__law_frac : mg "_law_frac" = some (.ref f__law_frac)
  f__law_plus : Addr
  d__law_plus : FuncData
  F__law_plus : Fun K "_law_plus" "_law_plus" s__law_plus f__law_plus d__law_plus
  b__law_plus : Binds K d__law_plus ["_law_one", "_law_other"] []
  g__law_plus : mg "_law_plus" = some (.ref f__law_plus)
  f__law_times : Addr
  d__law_times : FuncData
  F__law_times : Fun K "_law_times" "_law_times" s__law_times f__law_times d__law_times
  b__law_times : Binds K d__law_times ["_law_one", "_law_other"] []
  g__law_times : mg "_law_times" = some (.ref f__law_times)
  f__law_other_way : Addr
  d__law_other_way : FuncData
  F__law_other_way : Fun K "_law_other_way" "_law_other_way" s__law_other_way f__law_other_way d__law_other_way
  b__law_other_way : Binds K d__law_other_way ["_law_one"] []
  g__law_other_way : mg "_law_other_way" = some (.ref f__law_other_way)
  f__law_added : Addr
  d__law_added : FuncData
  F__law_added : Fun K "_law_added" "_law_added" s__law_added f__law_added d__law_added
  b__law_added : Binds K d__law_added ["_law_one", "_law_other"] []
  g__law_added : mg "_law_added" = some (.ref f__law_added)
  f__law_away : Addr
  d__law_away : FuncData
  F__law_away : Fun K "_law_away" "_law_away" s__law_away f__law_away d__law_away
  b__law_away : Binds K d__law_away ["_law_one", "_law_other"] []
  g__law_away : mg "_law_away" = some (.ref f__law_away)
  f__law_many : Addr
  d__law_many : FuncData
  F__law_many : Fun K "_law_many" "_law_many" s__law_many f__law_many d__law_many
  b__law_many : Binds K d__law_many ["_law_point_here", "_law_number_here"] []
  g__law_many : mg "_law_many" = some (.ref f__law_many)
  f__law_number : Addr
  d__law_number : FuncData
  F__law_number : Fun K "_law_number" "_law_number" s__law_number f__law_number d__law_number
  b__law_number : Binds K d__law_number ["_law_deck_here"] []
  g__law_number : mg "_law_number" = some (.ref f__law_number)
  f__law_point : Addr
  d__law_point : FuncData
  F__law_point : Fun K "_law_point" "_law_point" s__law_point f__law_point d__law_point
  b__law_point : Binds K d__law_point ["_law_deck_here"] []
  g__law_point : mg "_law_point" = some (.ref f__law_point)
  f__law_size : Addr
  d__law_size : FuncData
  F__law_size : Fun K "_law_size" "_law_size" s__law_size f__law_size d__law_size
  b__law_size : Binds K d__law_size ["_law_deck_here"] []
  g__law_size : mg "_law_size" = some (.ref f__law_size)
  f__law_base : Addr
  d__law_base : FuncData
  F__law_base : Fun K "_law_base" "_law_base" s__law_base f__law_base d__law_base
  b__law_base : Binds K d__law_base ["_law_deck_here"] []
  g__law_base : mg "_law_base" = some (.ref f__law_base)
  f__law_turning : Addr
  d__law_turning : FuncData
  F__law_turning : Fun K "_law_turning" "_law_turning" s__law_turning f__law_turning d__law_turning
  b__law_turning : Binds K d__law_turning ["_law_deck_here", "_law_number_here"] []
  g__law_turning : mg "_law_turning" = some (.ref f__law_turning)
  f__law_sliding : Addr
  d__law_sliding : FuncData
  F__law_sliding : Fun K "_law_sliding" "_law_sliding" s__law_sliding f__law_sliding d__law_sliding
  b__law_sliding : Binds K d__law_sliding ["_law_deck_here", "_law_number_here"] []
  g__law_sliding : mg "_law_sliding" = some (.ref f__law_sliding)
  f__law_applied : Addr
  d__law_applied : FuncData
  F__law_applied : Fun K "_law_applied" "_law_applied" s__law_applied f__law_applied d__law_applied
  b__law_applied : Binds K d__law_applied ["_law_form", "_law_point_here"] []
  g__law_applied : mg "_law_applied" = some (.ref f__law_applied)
  f__law_walk : Addr
  d__law_walk : FuncData
  F__law_walk : Fun K "_law_walk" "_law_walk" s__law_walk f__law_walk d__law_walk
  b__law_walk : Binds K d__law_walk ["_law_bodies_here", "_law_number_here"] []
  g__law_walk : mg "_law_walk" = some (.ref f__law_walk)
  f__law_stands : Addr
  d__law_stands : FuncData
  F__law_stands : Fun K "_law_stands" "_law_stands" s__law_stands f__law_stands d__law_stands
  b__law_stands : Binds K d__law_stands ["_law_ways", "_law_point_here"] []
  g__law_stands : mg "_law_stands" = some (.ref f__law_stands)
  f__law_leaf : Addr
  d__law_leaf : FuncData
  F__law_leaf : Fun K "_law_leaf" "_law_leaf" s__law_leaf f__law_leaf d__law_leaf
  b__law_leaf : Binds K d__law_leaf ["_law_bodies_here", "_law_leaf_here", "_law_ways", "_law_far"] []
  g__law_leaf : mg "_law_leaf" = some (.ref f__law_leaf)
  f__law_laid : Addr
  d__law_laid : FuncData
  F__law_laid : Fun K "_law_laid" "_law_laid" s__law_laid f__law_laid d__law_laid
  b__law_laid : Binds K d__law_laid ["_law_bodies_here", "_law_number_here", "_law_far"] []
  g__law_laid : mg "_law_laid" = some (.ref f__law_laid)
  f__law_bodies : Addr
  d__law_bodies : FuncData
  F__law_bodies : Fun K "_law_bodies" "_law_bodies" s__law_bodies f__law_bodies d__law_bodies
  b__law_bodies : Binds K d__law_bodies ["_law_deck_here", "_law_bases", "_law_more"] []
  g__law_bodies : mg "_law_bodies" = some (.ref f__law_bodies)
  m_abs : mg "abs" = none
  m_bool : mg "bool" = none
  m_int : mg "int" = none
  m_isinstance : mg "isinstance" = none
  m_len : mg "len" = none
  m_min : mg "min" = none
  m_range : mg "range" = none
  m_str : mg "str" = none
  m_tuple : mg "tuple" = none
  m_zip : mg "zip" = none

/-- the greatest common divisor with the sign of b -/
def sg (a b : Int) : Int := if b < 0 then -(Int.gcd a b : Int) else (Int.gcd a b : Int)
/-- the loop of frac between two turns -/
def GInv (a b x y : Int) : Prop := Int.gcd x y = Int.gcd a b ∧ ((0 < b ∧ 0 ≤ y ∧ y < x ∧ x ≤ b) ∨ (b < 0 ∧ y ≤ 0 ∧ x < y ∧ b ≤ x))
theorem gcd_step (x y : Int) : Int.gcd y (x.fmod y) = Int.gcd x y := by
  rw [Int.fmod_def, Int.mul_comm, Int.gcd_sub_mul_right_right, Int.gcd_comm]
theorem fmod_pos {x y : Int} (h : 0 < y) : 0 ≤ x.fmod y ∧ x.fmod y < y := ⟨Int.fmod_nonneg_of_pos x h, Int.fmod_lt_of_pos x h⟩
theorem fmod_neg {x y : Int} (h : y < 0) : x.fmod y ≤ 0 ∧ y < x.fmod y := by
  have h' : 0 < -y := by omega
  have e := Int.neg_fmod_neg (-x) (-y)
  rw [Int.neg_neg, Int.neg_neg] at e
  have h1 := Int.fmod_nonneg_of_pos (-x) h'
  have h2 := Int.fmod_lt_of_pos (-x) h'
  omega
theorem GInv.start {a b : Int} (hb : b ≠ 0) : GInv a b b (a.fmod b) := by
  refine ⟨gcd_step a b, ?_⟩
  by_cases hp : 0 < b
  · have := @fmod_pos a b hp
    exact .inl ⟨hp, by omega, by omega, Int.le_refl _⟩
  · have hn : b < 0 := by omega
    have := @fmod_neg a b hn
    exact .inr ⟨hn, by omega, by omega, Int.le_refl _⟩
theorem GInv.next {a b x y : Int} (h : GInv a b x y) (hy : y ≠ 0) : GInv a b y (x.fmod y) ∧ (x.fmod y).natAbs < y.natAbs := by
  obtain ⟨hg, hs⟩ := h
  rcases hs with ⟨h1, h2, h3, h4⟩ | ⟨h1, h2, h3, h4⟩
  · have f := @fmod_pos x y (by omega)
    exact ⟨⟨by rw [gcd_step, hg], .inl ⟨h1, by omega, by omega, by omega⟩⟩, by omega⟩
  · have f := @fmod_neg x y (by omega)
    exact ⟨⟨by rw [gcd_step, hg], .inr ⟨h1, by omega, by omega, by omega⟩⟩, by omega⟩
theorem GInv.fin {a b x : Int} (h : GInv a b x 0) : x = sg a b := by
  obtain ⟨hg, hs⟩ := h
  rw [Int.gcd_zero_right] at hg
  unfold sg
  rw [← hg]
  split <;> omega
theorem GInv.ne {a b x y : Int} (h : GInv a b x y) : x ≠ 0 ∧ x.natAbs ≤ b.natAbs := by
  obtain ⟨hg, hs⟩ := h
  omega
/-- the law's own: without signs -/
def HInv (a b x y : Int) : Prop := Int.gcd x y = Int.gcd a b ∧ 0 ≤ x ∧ 0 ≤ y
theorem HInv.next {a b x y : Int} (h : HInv a b x y) (hy : 0 < y) : HInv a b y (x.fmod y) ∧ (x.fmod y).natAbs < y.natAbs := by
  obtain ⟨hg, hx, _⟩ := h
  have f := @fmod_pos x y hy
  exact ⟨⟨by rw [gcd_step, hg], by omega, f.1⟩, by omega⟩
theorem HInv.fin {a b x y : Int} (h : HInv a b x y) (hy : ¬ 0 < y) : x = (Int.gcd a b : Int) := by
  obtain ⟨hg, hx, h3⟩ := h
  have e : y = 0 := by omega
  subst e
  rw [Int.gcd_zero_right] at hg
  omega
theorem gcd_abs (a b : Int) : Int.gcd (if a < 0 then -a else a) (if b < 0 then -b else b) = Int.gcd a b := by
  have h : ∀ z : Int, (if z < 0 then -z else z).natAbs = z.natAbs := fun z => by split <;> omega
  unfold Int.gcd
  rw [h, h]
theorem sg_ne {a b : Int} (hb : b ≠ 0) : sg a b ≠ 0 ∧ (sg a b).natAbs ≤ b.natAbs := by
  have h1 : 0 < Int.gcd a b := Int.gcd_pos_of_ne_zero_right a hb
  have h2 : Int.gcd a b ≤ b.natAbs := Nat.le_of_dvd (by omega) (Int.gcd_dvd_natAbs_right a b)
  unfold sg
  split <;> omega
theorem sg_num {a b : Int} (hb : b ≠ 0) : a.fdiv (sg a b) = (Rat.divInt a b).num := by
  rw [Rat.num_divInt, Int.gcd_comm]
  have d : ((Int.gcd a b : Nat) : Int) ∣ a := Int.gcd_dvd_left a b
  unfold sg
  by_cases h : b < 0
  · rw [if_pos h, Int.sign_eq_neg_one_of_neg h, Int.fdiv_eq_ediv_of_dvd (Int.neg_dvd.mpr d), Int.ediv_neg, Int.neg_mul, Int.one_mul, Int.neg_ediv_of_dvd d]
  · rw [if_neg h, Int.fdiv_eq_ediv_of_dvd d]
    rw [Int.sign_eq_one_of_pos (by omega), Int.one_mul]
theorem sg_den {a b : Int} (hb : b ≠ 0) : b.fdiv (sg a b) = ((Rat.divInt a b).den : Int) := by
  rw [Rat.den_divInt, if_neg hb, Int.gcd_comm b a]
  have d : ((Int.gcd a b : Nat) : Int) ∣ b := Int.gcd_dvd_right a b
  unfold sg
  by_cases h : b < 0
  · rw [if_pos h, Int.fdiv_eq_ediv_of_dvd (Int.neg_dvd.mpr d), Int.ediv_neg, ← Int.neg_ediv_of_dvd d, Int.natCast_ediv]
    congr 1
    omega
  · rw [if_neg h, Int.fdiv_eq_ediv_of_dvd d, Int.natCast_ediv]
    congr 1
    omega

/-! ### sizes -/
def Bt (n : Nat) (x : Int) : Prop := x.natAbs < 2 ^ n
theorem Bt.mono {m n : Nat} {x : Int} (h : Bt m x) (hn : m ≤ n) : Bt n x := Nat.lt_of_lt_of_le h (Nat.pow_le_pow_right (by decide) hn)
theorem Bt.le {n : Nat} {x y : Int} (hy : Bt n y) (h : x.natAbs ≤ y.natAbs) : Bt n x := Nat.lt_of_le_of_lt h hy
theorem Bt.mul {m n : Nat} {x y : Int} (hx : Bt m x) (hy : Bt n y) : Bt (m + n) (x * y) := by
  unfold Bt at *
  rw [Int.natAbs_mul, Nat.pow_add]
  exact Nat.mul_lt_mul'' hx hy
theorem Bt.add {n : Nat} {x y : Int} (hx : Bt n x) (hy : Bt n y) : Bt (n + 1) (x + y) := by
  unfold Bt at *
  rw [Nat.pow_succ]
  omega
theorem Bt.neg {n : Nat} {x : Int} (hx : Bt n x) : Bt n (-x) := by
  unfold Bt at *
  rw [Int.natAbs_neg]
  exact hx
theorem Bt.sub {n : Nat} {x y : Int} (hx : Bt n x) (hy : Bt n y) : Bt (n + 1) (x - y) := by
  unfold Bt at *
  rw [Nat.pow_succ]
  omega
/-- a fraction's two parts -/
def Rb (n : Nat) (q : Rat) : Prop := Bt n q.num ∧ Bt n (q.den : Int)
theorem Rb.mono {m n : Nat} {q : Rat} (h : Rb m q) (hn : m ≤ n) : Rb n q := ⟨h.1.mono hn, h.2.mono hn⟩
theorem den_ne (q : Rat) : ((q.den : Nat) : Int) ≠ 0 := by
  have := q.den_pos
  omega
theorem rb_div {n : Nat} {a b : Int} (hb : b ≠ 0) (h1 : Bt n a) (h2 : Bt n b) : Rb n (Rat.divInt a b) := by
  have hs := (sg_ne (a := a) hb).1
  have e1 : a.fdiv (sg a b) * sg a b = a := Int.fdiv_mul_cancel (by
    unfold sg
    split
    · exact Int.neg_dvd.mpr (Int.gcd_dvd_left a b)
    · exact Int.gcd_dvd_left a b)
  have e2 : b.fdiv (sg a b) * sg a b = b := Int.fdiv_mul_cancel (by
    unfold sg
    split
    · exact Int.neg_dvd.mpr (Int.gcd_dvd_right a b)
    · exact Int.gcd_dvd_right a b)
  have k : ∀ x y : Int, x * sg a b = y → x.natAbs ≤ y.natAbs := fun x y e => by
    rw [← e, Int.natAbs_mul]
    exact Nat.le_mul_of_pos_right _ (by omega)
  rw [sg_num hb] at e1
  rw [sg_den hb] at e2
  exact ⟨h1.le (k _ _ e1), h2.le (k _ _ e2)⟩
theorem rat_sum (q r : Rat) : Rat.divInt (q.num * r.den + r.num * q.den) (q.den * r.den) = q + r := by
  rw [← Rat.divInt_add_divInt _ _ (den_ne q) (den_ne r), Rat.num_divInt_den, Rat.num_divInt_den]
theorem rat_less (q r : Rat) : Rat.divInt (q.num * r.den - r.num * q.den) (q.den * r.den) = q - r := by
  rw [← Rat.divInt_sub_divInt _ _ (den_ne q) (den_ne r), Rat.num_divInt_den, Rat.num_divInt_den]
theorem rat_prod (q r : Rat) : Rat.divInt (q.num * r.num) (q.den * r.den) = q * r := by
  rw [← Rat.divInt_mul_divInt, Rat.num_divInt_den, Rat.num_divInt_den]
theorem rat_quot (q r : Rat) : Rat.divInt (q.num * r.den) (q.den * r.num) = q / r := by
  rw [Rat.div_def, Rat.inv_def, ← Rat.divInt_mul_divInt, Rat.num_divInt_den]
theorem Rb.add {m n : Nat} {q r : Rat} (hq : Rb m q) (hr : Rb n r) : Rb (m + n + 1) (q + r) := by
  rw [← rat_sum]
  exact rb_div (Int.mul_ne_zero (den_ne q) (den_ne r)) ((hq.1.mul hr.2).add ((hr.1.mul hq.2).mono (by omega))) ((hq.2.mul hr.2).mono (by omega))
theorem Rb.sub {m n : Nat} {q r : Rat} (hq : Rb m q) (hr : Rb n r) : Rb (m + n + 1) (q - r) := by
  rw [← rat_less]
  exact rb_div (Int.mul_ne_zero (den_ne q) (den_ne r)) ((hq.1.mul hr.2).sub ((hr.1.mul hq.2).mono (by omega))) ((hq.2.mul hr.2).mono (by omega))
theorem Rb.mul {m n : Nat} {q r : Rat} (hq : Rb m q) (hr : Rb n r) : Rb (m + n) (q * r) := by
  rw [← rat_prod]
  exact rb_div (Int.mul_ne_zero (den_ne q) (den_ne r)) (hq.1.mul hr.1) (hq.2.mul hr.2)
theorem num_ne {r : Rat} (h : r ≠ 0) : r.num ≠ 0 := fun e => h (Rat.num_eq_zero.mp e)
theorem Rb.div {m n : Nat} {q r : Rat} (hq : Rb m q) (hr : Rb n r) (h : r ≠ 0) : Rb (m + n) (q / r) := by
  rw [← rat_quot]
  exact rb_div (Int.mul_ne_zero (den_ne q) (num_ne h)) (hq.1.mul hr.2) (hq.2.mul hr.1)

/-! ### rules of numbers -/
section
variable {X : Cx}
theorem op_fdX : OpR X (binaryOp .FloorDiv) (rI (fun _ j => j ≠ 0 ∧ Bt 9000 j) fun i j => .int (i.fdiv j)) := opI fun _ _ _ _ _ _ _ hc q =>
  floordiv_int hc.1 q (.inl (PyProof.noPylong_of_log2 (PySem.Flt.log2_lt_of (by decide) hc.2)))
end
/-! the rules within a comprehension: the written part by name -/
section
variable {X : Cx} {K : PySem.W.Frag}
theorem call_isiC (h : X.K = K) : CallR X (.builtin "isinstance") (rIsi K) := h ▸ call_isi
theorem ix_listC (h : X.K = K) : IxR X (rIxL K) := h ▸ ix_list
theorem ix_tupC (h : X.K = K) : IxR X (rIxT K) := h ▸ ix_tup
theorem call_len_seqC (h : X.K = K) : CallR X (.builtin "len") (fun xs H Q => ∃ p ys, xs = [.ref p] ∧ (SqL K H p ys ∨ SqT K H p ys) ∧ Q (.int ys.length) H) := h ▸ call_len_seq
theorem pg_tupC {es : List Expr} {k : Nat} {t : TGs} {n : Nat} {pos : Pos} (hK : X.K = K) (hc : X.calm = true) (h : PGs X es t) (hn : (assignEach es X.env).length = n := by rfl) (hst : (assignEach es X.env).findIdx? (·.1) = none := by rfl) : PG X (.Tuple es k pos) (gTup K n t) := hK ▸ pg_tup hc h hn hst
theorem pi_listC {tg l : Expr} {tl : TE} (hK : X.K = K) (hl : PE X l tl) : PI X tg l (iList K tl) := hK ▸ pi_list hl
theorem pi_tupC {tg l : Expr} {tl : TE} (hK : X.K = K) (hl : PE X l tl) : PI X tg l (iTup K tl) := hK ▸ pi_tup hl
theorem op_eqDC (h : X.K = K) (hu : X.A.units + 64 < cLine) : OpR X (compareOp .Eq) (rEqD K) := h ▸ op_eqD hu
theorem op_neDC (h : X.K = K) (hu : X.A.units + 64 < cLine) : OpR X (compareOp .NotEq) (rNeD K) := h ▸ op_neD hu
end
theorem bt_lit {n : Nat} {x : Int} (h : x.natAbs < 2 ^ n) : Bt n x := h
theorem ite_yes {c A B : Prop} [Decidable c] (h : c) (a : A) : if c then A else B := by
  rw [if_pos h]
  exact a
theorem ite_no {c A B : Prop} [Decidable c] (h : ¬ c) (a : B) : if c then A else B := by
  rw [if_neg h]
  exact a
theorem sz_n {n : Nat} (h : n ≤ 1000) : n ≤ sizeLine := Nat.le_trans h (by decide)
/-! ### readings, one by one -/
theorem rd_v {i : Nat} {v : V} {σ : L2.St} {H : Hp} {Q : VK} (h : σ[i]? = some (some v)) (q : Q v H) : tVar i σ H Q := ⟨v, h, q⟩
theorem rd_c {v : V} {σ : L2.St} {H : Hp} {Q : VK} (q : Q v H) : tC v σ H Q := q
theorem rd_yes {σ : L2.St} {H : Hp} {Q : Bool → Hp → Prop} (q : Q true H) : tYes σ H Q := q
theorem rd_ixT {K : PySem.W.Frag} {i : Nat} {p : Addr} {xs : List V} {j : Int} {v : V} {σ : L2.St} {H : Hp} {Q : VK} (h : σ[i]? = some (some (.ref p))) (hp : H p = some (.tup xs)) (ha : atI xs j = some v) (q : Q v H) :
    tOp (rIxT K) (tVar i) (tC (.int j)) σ H Q := ⟨.ref p, h, p, xs, j, v, rfl, rfl, SqT.of hp, ha, q⟩
theorem rd_ixL {K : PySem.W.Frag} {i : Nat} {p : Addr} {xs : List V} {j : Int} {v : V} {σ : L2.St} {H : Hp} {Q : VK} (h : σ[i]? = some (some (.ref p))) (hp : H p = some (.lst xs)) (ha : atI xs j = some v) (q : Q v H) :
    tOp (rIxL K) (tVar i) (tC (.int j)) σ H Q := ⟨.ref p, h, p, xs, j, v, rfl, rfl, SqL.of hp, ha, q⟩
theorem rd_mul {m n : Nat} {i j : Int} {H : Hp} {Q : VK} (hm : Bt m i) (hn : Bt n j) (h : m + n ≤ 134217728) (q : Q (.int (i * j)) H) : rI CMulX (fun i j => .int (i * j)) (.int i) (.int j) H Q := ⟨i, j, rfl, rfl, mulx_ok hm hn h, q⟩
theorem rd_i0 {g : Int → Int → V} {i j : Int} {H : Hp} {Q : VK} (q : Q (g i j) H) : rI0 g (.int i) (.int j) H Q := ⟨i, j, rfl, rfl, q⟩
theorem rd_eqi {i j : Int} {H : Hp} {Q : VK} (q : Q (.bl (decide (i = j))) H) : rEq (.int i) (.int j) H Q := by
  refine ⟨rfl, ?_⟩
  have e : decide (V.int i = V.int j) = decide (i = j) := by
    by_cases h : i = j
    · rw [decide_eq_true h, decide_eq_true (congrArg V.int h)]
    · rw [decide_eq_false h, decide_eq_false fun z => h (V.int.inj z)]
  rw [e]
  exact q
theorem rd_asg {te : TE} {g : TG} {rest : TS} {D : Ends} {σ : L2.St} {H : Hp} (q : te σ H fun v H1 => g v σ H1 (rest D)) : tSeq (tAsg te g) rest D σ H := q
theorem rd_op {r : R2} {ta tb : TE} {σ : L2.St} {H : Hp} {Q : VK} (q : ta σ H fun x H1 => tb σ H1 fun y H2 => r x y H2 Q) : tOp r ta tb σ H Q := q
theorem rd_lst {t : TA} {σ : L2.St} {H : Hp} {Q : VK} (q : t σ H fun xs H1 => xs.length ≤ sizeLine ∧ ∀ p, H1 p = none → Q (.ref p) (upd H1 p (.lst xs))) : tLst t σ H Q := q
def forK (g : TG) (tb : TS) (D : Ends) (σ0 : L2.St) : It → Hp → Prop := fun J H1 => ∃ W : Nat → Nat → L2.St → Hp → Prop, (∃ m, W 0 m σ0 H1) ∧ ∀ i m σ H, W i m σ H →
  (J.stop i H ∧ D.nx σ H) ∨ (J.go i H ∧ ∃ N : L2.St → Hp → Prop, (∀ σ' H', N σ' H' → ∃ m', m' < m ∧ W (i + 1) m' σ' H') ∧ ∀ x H', J.yld i H x H' → g x σ H' fun σ2 H2 => tb { D with nx := N, ct := N, bk := D.nx } σ2 H2)
theorem rd_for {wi : TI} {g : TG} {tb : TS} {D : Ends} {σ : L2.St} {H : Hp} (q : wi σ H (forK g tb D σ)) : tFor wi g tb D σ H := q
theorem rd_forS {wi : TI} {g : TG} {tb rest : TS} {D : Ends} {σ : L2.St} {H : Hp} (q : wi σ H (forK g tb { D with nx := rest D } σ)) : tSeq (tFor wi g tb) rest D σ H := q
theorem rd_iL {K : PySem.W.Frag} {tl : TE} {σ : L2.St} {H : Hp} {R : It → Hp → Prop} (q : tl σ H fun x H1 => ∃ a, x = .ref a ∧ (∃ xs, SqL K H1 a xs) ∧ R (Itl K a) H1) : iList K tl σ H R := q
theorem rd_cons {te : TE} {ta : TA} {σ : L2.St} {H : Hp} {Q : List V → Hp → Prop} (q : te σ H fun x H1 => ta σ H1 fun xs H2 => Q (x :: xs) H2) : tCons te ta σ H Q := q
theorem rd_ret {te : TE} {D : Ends} {σ : L2.St} {H : Hp} (q : te σ H D.rt) : tRet te D σ H := q
theorem rd_tup {t : TA} {σ : L2.St} {H : Hp} {Q : VK} (q : t σ H fun xs H1 => xs.length ≤ sizeLine ∧ ∀ p, H1 p = none → Q (.ref p) (upd H1 p (.tup xs))) : tTup t σ H Q := q
/-! ### heaps -/
theorem same_upd {H : Hp} {p : Addr} {o : HO} (h : H p = none) : Same H (upd H p o) := fun b x e => by
  rw [upd_ne (ne_of_none e h)]
  exact e
theorem same_tup {K : PySem.W.Frag} {H H' : Hp} {a : Addr} {xs : List V} (e : Same H H') (h : SqT K H a xs) : SqT K H' a xs := by
  rcases h with (h | ⟨o, h⟩) | h
  · exact .inl (.inl (e _ _ h))
  · exact .inl (.inr ⟨o, e _ _ h⟩)
  · exact .inr h
/-- a fraction as it stands -/
def FrV (H : Hp) (v : V) (q : Rat) : Prop := ∃ p, v = .ref p ∧ H p = some (.tup [.int q.num, .int (q.den : Int)])
theorem FrV.same {H H' : Hp} {v : V} {q : Rat} (e : Same H H') (h : FrV H v q) : FrV H' v q := by
  obtain ⟨p, rfl, h⟩ := h
  exact ⟨p, rfl, e _ _ h⟩
theorem frv_new {H : Hp} {p : Addr} {a b : Int} {q : Rat} (e1 : a = q.num) (e2 : b = (q.den : Int)) : FrV (upd H p (.tup [.int a, .int b])) (.ref p) q := by
  subst e1 e2
  exact ⟨p, rfl, upd_same⟩
theorem FrV.dp {K : PySem.W.Frag} {H : Hp} {v : V} {q : Rat} (h : FrV H v q) : Dp K H v (.tuple [.int q.num, .int (q.den : Int)]) := by
  obtain ⟨p, rfl, h⟩ := h
  exact Dp.tup (SqT.of h) (DpAll.cons (Dp.int _) (DpAll.cons (Dp.int _) DpAll.nil))
theorem nd_ne {a b : V} (e : (!decide (a = b)) = true) : a ≠ b := fun z => by
  rw [decide_eq_true z] at e
  cases e
theorem nd_eq {a b : V} (e : ¬ (!decide (a = b)) = true) : a = b := Decidable.byContradiction fun z => e (by
  rw [decide_eq_false z]
  rfl)
theorem eqv2 (x y a b : Int) : PyData.eqv (.tuple [.int x, .int y]) (.tuple [.int a, .int b]) = (decide (x = a) && decide (y = b)) := by
  simp [PyData.eqv, PyData.eqvAll, Bool.beq_eq_decide_eq]
/-! ### the deck: all else stands -/
def Keep (d l : Addr) (H H' : Hp) : Prop := ∀ a o, H a = some o → a ≠ d → a ≠ l → H' a = some o
theorem Keep.refl {d l : Addr} {H : Hp} : Keep d l H H := fun _ _ h _ _ => h
theorem Keep.trans {d l : Addr} {H H1 H2 : Hp} (a : Keep d l H H1) (b : Keep d l H1 H2) : Keep d l H H2 := fun x o h h1 h2 => b x o (a x o h h1 h2) h1 h2
theorem same_keep {d l : Addr} {H H' : Hp} (e : Same H H') : Keep d l H H' := fun a o h _ _ => e a o h
theorem keep_d {d l : Addr} {H : Hp} {o : HO} : Keep d l H (upd H d o) := fun a u h h1 _ => by
  rw [upd_ne h1]
  exact h
theorem keep_l {d l : Addr} {H : Hp} {o : HO} : Keep d l H (upd H l o) := fun a u h _ h2 => by
  rw [upd_ne h2]
  exact h
theorem keep_new {d l p : Addr} {H : Hp} {o : HO} (h : H p = none) : Keep d l H (upd H p o) := same_keep (same_upd h)
theorem Keep.sq {K : PySem.W.Frag} {d l s : Addr} {H H' : Hp} {xs : List V} (k : Keep d l H H') (h1 : s ≠ d) (h2 : s ≠ l) (h : SqL K H s xs) : SqL K H' s xs := by
  rcases h with (h | ⟨o, h⟩) | h
  · exact .inl (.inl (k _ _ h h1 h2))
  · exact .inl (.inr ⟨o, k _ _ h h1 h2⟩)
  · exact .inr h
/-- the script: of the written part, or tracked beside the deck -/
def Sct (K : PySem.W.Frag) (H : Hp) (d l s : Addr) (xs : List V) : Prop := (∀ H', SqL K H' s xs) ∨ (SqL K H s xs ∧ s ≠ d ∧ s ≠ l)
theorem Sct.sq {K : PySem.W.Frag} {H : Hp} {d l s : Addr} {xs : List V} (h : Sct K H d l s xs) : SqL K H s xs := by
  rcases h with h | h
  · exact h H
  · exact h.1
theorem Sct.keep {K : PySem.W.Frag} {H H' : Hp} {d l s : Addr} {xs : List V} (h : Sct K H d l s xs) (k : Keep d l H H') : Sct K H' d l s xs := by
  rcases h with h | ⟨h, h1, h2⟩
  · exact .inl h
  · exact .inr ⟨k.sq h1 h2 h, h1, h2⟩
theorem sct_of {K : PySem.W.Frag} {H H' : Hp} {d l s : Addr} {xs : List V} (h : SqL K H s xs) (e : Same H H') (nd : H d = none) (nl : H l = none) : Sct K H' d l s xs := by
  rcases h with (h | ⟨o, h⟩) | h
  · exact .inr ⟨.inl (.inl (e _ _ h)), ne_of_none h nd, ne_of_none h nl⟩
  · exact .inr ⟨.inl (.inr ⟨o, e _ _ h⟩), ne_of_none h nd, ne_of_none h nl⟩
  · exact .inl fun _ => .inr h
/-- the deck at d: the script at s, the numbers at l -/
def Dk (K : PySem.W.Frag) (H : Hp) (d l s : Addr) (ns : List Int) (c : Nat) : Prop :=
  ∃ (xs : List Int) (i k : Nat), H d = some (.lst [.ref s, .ref l, .int (i : Int), .int (k : Int)]) ∧ H l = some (.lst (xs.map V.int)) ∧ k ≤ c ∧ Sct K H d l s (ns.map V.int)
theorem Dk.mono {K : PySem.W.Frag} {H : Hp} {d l s : Addr} {ns : List Int} {c c' : Nat} (h : Dk K H d l s ns c) (hc : c ≤ c') : Dk K H d l s ns c' := by
  obtain ⟨xs, i, k, h1, h2, h3, h4⟩ := h
  exact ⟨xs, i, k, h1, h2, Nat.le_trans h3 hc, h4⟩
theorem Dk.same {K : PySem.W.Frag} {H H' : Hp} {d l s : Addr} {ns : List Int} {c : Nat} (h : Dk K H d l s ns c) (e : Same H H') : Dk K H' d l s ns c := by
  obtain ⟨xs, i, k, h1, h2, h3, h4⟩ := h
  exact ⟨xs, i, k, e _ _ h1, e _ _ h2, h3, h4.keep (same_keep e)⟩
theorem Dk.new {K : PySem.W.Frag} {H : Hp} {d l s p : Addr} {o : HO} {ns : List Int} {c : Nat} (h : Dk K H d l s ns c) (hp : H p = none) : Dk K (upd H p o) d l s ns c := h.same (same_upd hp)
/-- what is no list is not the deck's -/
theorem Keep.at {K : PySem.W.Frag} {H H' : Hp} {d l s a : Addr} {ns : List Int} {c : Nat} {o : HO} (k : Keep d l H H') (h : Dk K H d l s ns c) (e : H a = some o) (no : ∀ xs, o ≠ .lst xs) : H' a = some o := by
  obtain ⟨xs, i, n, h1, h2, _⟩ := h
  exact k a o e (ne_of e h1 (no _)) (ne_of e h2 (no _))
theorem Keep.tup {K : PySem.W.Frag} {H H' : Hp} {d l s a : Addr} {ns : List Int} {c : Nat} {xs : List V} (k : Keep d l H H') (h : Dk K H d l s ns c) (e : H a = some (.tup xs)) : H' a = some (.tup xs) :=
  k.at h e fun _ z => by cases z
theorem Keep.fr {K : PySem.W.Frag} {H H' : Hp} {d l s : Addr} {ns : List Int} {c : Nat} {v : V} {q : Rat} (k : Keep d l H H') (h : Dk K H d l s ns c) (f : FrV H v q) : FrV H' v q := by
  obtain ⟨p, rfl, e⟩ := f
  exact ⟨p, rfl, k.tup h e⟩
theorem Dk.ne {K : PySem.W.Frag} {H : Hp} {d l s : Addr} {ns : List Int} {c : Nat} (h : Dk K H d l s ns c) : d ≠ l := by
  obtain ⟨xs, i, n, h1, h2, _⟩ := h
  refine ne_of h1 h2 fun z => ?_
  cases xs with
  | nil => cases z
  | cons x r => cases z

/-! ### rows of fractions -/
def AF (H : Hp) : List V → List Rat → Prop
  | [], [] => True
  | v :: vs, q :: qs => FrV H v q ∧ AF H vs qs
  | _, _ => False
theorem AF.imp {H H' : Hp} (k : ∀ v q, FrV H v q → FrV H' v q) : ∀ {vs : List V} {qs : List Rat}, AF H vs qs → AF H' vs qs
  | [], [], _ => trivial
  | v :: vs, q :: qs, h => ⟨k v q h.1, AF.imp k h.2⟩
  | [], _ :: _, h => h.elim
  | _ :: _, [], h => h.elim
theorem AF.len {H : Hp} : ∀ {vs : List V} {qs : List Rat}, AF H vs qs → vs.length = qs.length
  | [], [], _ => rfl
  | v :: vs, q :: qs, h => congrArg (· + 1) (AF.len h.2)
  | [], _ :: _, h => h.elim
  | _ :: _, [], h => h.elim
theorem AF.get {H : Hp} : ∀ {vs : List V} {qs : List Rat} {i : Nat} {v : V}, AF H vs qs → vs[i]? = some v → ∃ q, qs[i]? = some q ∧ FrV H v q
  | [], [], _, _, _, e => by simp at e
  | w :: vs, q :: qs, 0, v, h, e => ⟨q, rfl, by
      have e : w = v := Option.some.inj e
      exact e ▸ h.1⟩
  | w :: vs, q :: qs, i + 1, v, h, e => AF.get (i := i) h.2 e
  | [], _ :: _, _, _, h, _ => h.elim
  | _ :: _, [], _, _, h, _ => h.elim
theorem AF.snoc {H : Hp} {v : V} {q : Rat} (hv : FrV H v q) : ∀ {vs : List V} {qs : List Rat}, AF H vs qs → AF H (vs ++ [v]) (qs ++ [q])
  | [], [], _ => ⟨hv, trivial⟩
  | w :: vs, r :: qs, h => ⟨h.1, AF.snoc hv h.2⟩
  | [], _ :: _, h => h.elim
  | _ :: _, [], h => h.elim
theorem AF.same {H H' : Hp} (e : Same H H') {vs : List V} {qs : List Rat} (h : AF H vs qs) : AF H' vs qs := AF.imp (fun _ _ f => f.same e) h
theorem frv_lst {H : Hp} {D : Addr} {acc acc' : List V} {v : V} {q : Rat} (hD : H D = some (.lst acc)) (h : FrV H v q) : FrV (upd H D (.lst acc')) v q := by
  obtain ⟨p, rfl, h⟩ := h
  refine ⟨p, rfl, ?_⟩
  rw [upd_ne (ne_of h hD fun z => by cases z)]
  exact h
theorem AF.lst {H : Hp} {D : Addr} {acc acc' : List V} {vs : List V} {qs : List Rat} (hD : H D = some (.lst acc)) (h : AF H vs qs) : AF (upd H D (.lst acc')) vs qs := AF.imp (fun _ _ f => frv_lst hD f) h
/-- a tuple of fractions: a point -/
def PtV (H : Hp) (v : V) (qs : List Rat) : Prop := ∃ p xs, v = .ref p ∧ H p = some (.tup xs) ∧ AF H xs qs
theorem PtV.same {H H' : Hp} {v : V} {qs : List Rat} (e : Same H H') (h : PtV H v qs) : PtV H' v qs := by
  obtain ⟨p, xs, rfl, h, a⟩ := h
  exact ⟨p, xs, rfl, e _ _ h, a.same e⟩
theorem Keep.pt {K : PySem.W.Frag} {H H' : Hp} {d l s : Addr} {ns : List Int} {c : Nat} {v : V} {qs : List Rat} (k : Keep d l H H') (h : Dk K H d l s ns c) (f : PtV H v qs) : PtV H' v qs := by
  obtain ⟨p, xs, rfl, e, a⟩ := f
  exact ⟨p, xs, rfl, k.tup h e, AF.imp (fun _ _ f => k.fr h f) a⟩
def Rs (n : Nat) (qs : List Rat) : Prop := ∀ q ∈ qs, Rb n q
theorem rs_get {n : Nat} {qs : List Rat} {i : Nat} {q : Rat} (h : Rs n qs) (e : qs[i]? = some q) : Rb n q := h q (List.mem_of_getElem? e)
def rsum : List Rat → Rat
  | [] => 0
  | q :: r => q + rsum r
theorem rsum_snoc (q : Rat) : ∀ l : List Rat, rsum (l ++ [q]) = rsum l + q
  | [] => by
    show q + 0 = 0 + q
    grind
  | r :: l => by
    show r + rsum (l ++ [q]) = r + rsum l + q
    rw [rsum_snoc q l]
    grind
def prods (qs rs : List Rat) : List Rat := List.zipWith (fun q r => q * r) qs rs
theorem take_succ {α : Type} {l : List α} {i : Nat} {x : α} (h : l[i]? = some x) : l.take (i + 1) = l.take i ++ [x] := by
  rw [List.take_add_one, h]
  rfl
theorem prods_at {qs rs : List Rat} {i : Nat} {q r : Rat} (h1 : qs[i]? = some q) (h2 : rs[i]? = some r) : (prods qs rs)[i]? = some (q * r) := by
  unfold prods
  rw [List.getElem?_zipWith, h1, h2]
theorem dot_step {qs rs : List Rat} {i : Nat} {q r : Rat} (h1 : qs[i]? = some q) (h2 : rs[i]? = some r) : rsum ((prods qs rs).take (i + 1)) = rsum ((prods qs rs).take i) + q * r := by
  rw [take_succ (prods_at h1 h2), rsum_snoc]
/-- one turn of dot over whole numbers -/
theorem dot_turn {a b : Int} {q r S : Rat} (hb : b ≠ 0) (e : Rat.divInt a b = S) :
    Rat.divInt (a * ((q.den : Int) * (r.den : Int)) + q.num * r.num * b) (b * ((q.den : Int) * (r.den : Int))) = S + q * r := by
  rw [← e, ← rat_prod q r, Rat.divInt_add_divInt _ _ hb (Int.mul_ne_zero (den_ne q) (den_ne r))]
theorem walk_zipT {K : PySem.W.Frag} {a b : Addr} {xs ys : List V} {n : Nat} (hn : n = min xs.length ys.length) : Walk (RZ.ItzT K a b) n (fun H => SqT K H a xs ∧ SqT K H b ys) (YPair (fun i => xs[i]?) (fun i => ys[i]?)) := by
  subst hn
  refine ⟨fun i _ hi q => ?_, fun _ q => ⟨xs, ys, q.1, q.2, by omega⟩, fun i H v H' _ q y => ?_⟩
  · have h1 : i < xs.length := by omega
    have h2 : i < ys.length := by omega
    exact ⟨xs, ys, xs[i], ys[i], q.1, q.2, by simp [h1], by simp [h2]⟩
  · obtain ⟨T, x, z, h1, h2, h3, h4, h5⟩ := y
    exact ⟨T, x, z, h1, h2, h3, h4 xs q.1, h5 ys q.2⟩

section
variable {P : Program} {w : World} {K : PySem.W.Frag} {mg : Str → Option Value} {base : Heap}
def sp_frac : Sp := fun vs H Q _ => ∃ a b : Int, vs = [.int a, .int b] ∧ b ≠ 0 ∧ Bt 9000 b ∧ ∀ H' v, Same H H' → FrV H' v (Rat.divInt a b) → Q v H'
theorem ok_frac (T : Tx K mg w) : FnOk P w K mg base CX0 1 T.f_frac T.d_frac ["above", "below"] sp_frac := by
  refine T.F_frac.ok sc_frac (fun vs H Q E h => ?_) (fun cdv A outer s H vs Q E hr h => ?_)
  · obtain ⟨a, b, rfl, _⟩ := h
    rfl
  · obtain ⟨a, b, rfl, hb, hB, q⟩ := h
    refine ⟨_, (pss_cons (ps_par (i := 2) (j := 3) (by rfl) sc_frac.nd rfl rfl (by decide) rfl rfl (pa_cons (pv 1) (pa_cons (pe_op op_modN (pv 0) (pv 1)) pa_nil)) (by rfl))
      (pss_cons (ps_while PassesOwn.never (pt_truth (pv 3) (by intro _; rfl)) (pss_one (ps_par (i := 2) (j := 3) (by rfl) sc_frac.nd rfl rfl (by decide) rfl rfl (pa_cons (pv 3) (pa_cons (pe_op op_modN (pv 2) (pv 3)) pa_nil)) (by rfl))))
      (pss_one (ps_ret (pe_tup (pa_cons (pe_op op_fdX (pv 0) (pv 2)) (pa_cons (pe_op op_fdX (pv 1) (pv 2)) pa_nil))))))), ?_⟩
    refine ⟨.int b, rfl, .int a, rfl, .int b, rfl, a, b, rfl, rfl, hb, _, _, rfl, ?_⟩
    refine ⟨fun m σ H' => H' = H ∧ ∃ x y : Int, σ = [some (.int a), some (.int b), some (.int x), some (.int y)] ∧ m = y.natAbs ∧ GInv a b x y, ⟨_, rfl, b, a.fmod b, rfl, rfl, GInv.start hb⟩, fun m σ H2 hW => ?_⟩
    obtain ⟨rfl, x, y, rfl, rfl, inv⟩ := hW
    refine ⟨.int y, rfl, y != 0, rfl, ?_⟩
    by_cases hy : y = 0
    · subst hy
      refine iteF ?_
      have ex := inv.fin
      obtain ⟨n1, n2⟩ := inv.ne
      have bx : Bt 9000 x := hB.le n2
      refine ⟨.int a, rfl, .int x, rfl, a, x, rfl, rfl, ⟨n1, bx⟩, .int b, rfl, .int x, rfl, b, x, rfl, rfl, ⟨n1, bx⟩, sz_n (by decide : 2 ≤ 1000), fun p hp => q _ _ (same_upd hp) ?_⟩
      subst ex
      exact frv_new (sg_num hb) (sg_den hb)
    · have hyb : (y != 0) = true := by simpa using hy
      refine ite_yes hyb ?_
      have nx := inv.next hy
      refine ⟨fun σ' H' => ∃ m', m' < y.natAbs ∧ H' = H2 ∧ ∃ x y : Int, σ' = [some (.int a), some (.int b), some (.int x), some (.int y)] ∧ m' = y.natAbs ∧ GInv a b x y, fun _ _ h => h, ?_⟩
      exact ⟨.int y, rfl, .int x, rfl, .int y, rfl, x, y, rfl, rfl, hy, _, _, rfl, _, nx.2, rfl, y, x.fmod y, rfl, rfl, nx.1⟩
theorem b2 {m n : Nat} (hm : m ≤ 4000) (hn : n ≤ 4000) : m + n ≤ 134217728 := by omega
def sp_two (f : Rat → Rat → Rat) (ok : Rat → Prop) : Sp := fun vs H Q _ => ∃ v1 v2 q r, vs = [v1, v2] ∧ FrV H v1 q ∧ FrV H v2 r ∧ Rb 4000 q ∧ Rb 4000 r ∧ ok r ∧ ∀ H' v, Same H H' → FrV H' v (f q r) → Q v H'
/-- the same, of fractions of any sizes that a division bears -/
def sp_twoG (f : Rat → Rat → Rat) (ok : Rat → Prop) : Sp := fun vs H Q _ => ∃ v1 v2 q r m n, vs = [v1, v2] ∧ FrV H v1 q ∧ FrV H v2 r ∧ Rb m q ∧ Rb n r ∧ m + n ≤ 9000 ∧ ok r ∧ ∀ H' v, Same H H' → FrV H' v (f q r) → Q v H'
theorem two_lenG {f : Rat → Rat → Rat} {ok : Rat → Prop} {vs : List V} {H : Hp} {Q : VK} {E : XK} (h : sp_twoG f ok vs H Q E) : vs.length = 2 := by
  obtain ⟨_, _, _, _, _, _, rfl, _⟩ := h
  rfl
theorem two_G {f : Rat → Rat → Rat} {ok : Rat → Prop} (vs : List V) (H : Hp) (Q : VK) (E : XK) (h : sp_two f ok vs H Q E) : sp_twoG f ok vs H Q E := by
  obtain ⟨v1, v2, q, r, e, f1, f2, b1, b2, k⟩ := h
  exact ⟨v1, v2, q, r, 4000, 4000, e, f1, f2, b1, b2, by decide, k⟩
theorem two_len {f : Rat → Rat → Rat} {ok : Rat → Prop} {vs : List V} {H : Hp} {Q : VK} {E : XK} (h : sp_two f ok vs H Q E) : vs.length = 2 := by
  obtain ⟨_, _, _, _, rfl, _⟩ := h
  rfl
end

/-! ### data, further -/
section
variable {K : PySem.W.Frag} {H H' : Hp}
theorem TupAt.sq {a : Addr} {xs : List V} (h : TupAt K H a xs) : SqT K H a xs := h.elim SqT.of fun h => h H
/-- tuples stay -/
def TK (H H' : Hp) : Prop := ∀ a xs, H a = some (.tup xs) → H' a = some (.tup xs)
theorem TK.refl : TK H H := fun _ _ h => h
theorem TK.trans {H1 H2 : Hp} (a : TK H H1) (b : TK H1 H2) : TK H H2 := fun x o h => b x o (a x o h)
theorem Same.tk (e : Same H H') : TK H H' := fun a xs h => e a _ h
theorem tk_new {p : Addr} {o : HO} (h : H p = none) : TK H (upd H p o) := Same.tk (same_upd h)
theorem tk_lst {p : Addr} {o : HO} {xs : List V} (h : H p = some (.lst xs)) : TK H (upd H p o) := fun a ys e => by
  rw [upd_ne (ne_of e h fun z => by cases z)]
  exact e
theorem Keep.tk {d l s : Addr} {ns : List Int} {c : Nat} (k : Keep d l H H') (h : Dk K H d l s ns c) : TK H H' := fun _ _ e => k.tup h e
theorem TupAt.tk {a : Addr} {xs : List V} (e : TK H H') (h : TupAt K H a xs) : TupAt K H' a xs := h.elim (fun h => .inl (e _ _ h)) .inr
mutual
theorem DT.tk (e : TK H H') : ∀ {v : V} {d : PyData}, DT K H v d → DT K H' v d
  | _, _, .non => .non
  | _, _, .bl b => .bl b
  | _, _, .int i => .int i
  | _, _, .str x => .str x
  | _, _, .tup h hs => .tup (h.tk e) (DTs.tk e hs)
theorem DTs.tk (e : TK H H') : ∀ {vs : List V} {ds : List PyData}, DTs K H vs ds → DTs K H' vs ds
  | _, _, .nil => .nil
  | _, _, .cons h hs => .cons (DT.tk e h) (DTs.tk e hs)
end
theorem DT.same {v : V} {d : PyData} (e : Same H H') (h : DT K H v d) : DT K H' v d := h.tk (Same.tk e)
theorem DT.inv {v : V} {ds : List PyData} (h : DT K H v (.tuple ds)) : ∃ a xs, v = .ref a ∧ TupAt K H a xs ∧ DTs K H xs ds := by
  cases h with
  | tup h hs => exact ⟨_, _, rfl, h, hs⟩
theorem DT.int_inv {v : V} {i : Int} (h : DT K H v (.int i)) : v = .int i := by cases h; rfl
theorem DT.str_inv {v : V} {x : Str} (h : DT K H v (.str x)) : v = .str x := by cases h; rfl
theorem DTs.len {ds : List PyData} : ∀ {vs : List V}, DTs K H vs ds → vs.length = ds.length := by
  induction ds with
  | nil => intro vs h; cases h; rfl
  | cons d ds ih =>
    intro vs h
    cases h with
    | cons h hs => rw [List.length_cons, List.length_cons, ih hs]
theorem DTs.get {ds : List PyData} {j : Nat} {d : PyData} : ∀ {vs : List V}, DTs K H vs ds → ds[j]? = some d → ∃ v, vs[j]? = some v ∧ DT K H v d := by
  induction ds generalizing j with
  | nil => intro vs h e; cases e
  | cons x ds ih =>
    intro vs h e
    cases h with
    | cons h hs =>
      cases j with
      | zero => cases e; exact ⟨_, rfl, h⟩
      | succ j =>
        obtain ⟨u, hu, hd⟩ := ih hs e
        exact ⟨u, hu, hd⟩
theorem DTs.get' {ds : List PyData} {j : Nat} {v : V} : ∀ {vs : List V}, DTs K H vs ds → vs[j]? = some v → ∃ d, ds[j]? = some d ∧ DT K H v d := by
  induction ds generalizing j with
  | nil => intro vs h e; cases h; cases e
  | cons x ds ih =>
    intro vs h e
    cases h with
    | cons h hs =>
      cases j with
      | zero => cases e; exact ⟨_, rfl, h⟩
      | succ j =>
        obtain ⟨u, hu, hd⟩ := ih hs e
        exact ⟨u, hu, hd⟩
theorem DTs.append {us : List V} {ds es : List PyData} : ∀ {vs : List V}, DTs K H vs ds → DTs K H us es → DTs K H (vs ++ us) (ds ++ es) := by
  induction ds with
  | nil => intro vs h k; cases h; exact k
  | cons d ds ih =>
    intro vs h k
    cases h with
    | cons h hs =>
      show DTs K H (_ :: (_ ++ us)) (_ :: (_ ++ es))
      exact .cons h (ih hs k)
theorem dt_new {p : Addr} {xs : List V} {ds : List PyData} (hp : H p = none) (hs : DTs K H xs ds) : DT K (upd H p (.tup xs)) (.ref p) (.tuple ds) :=
  .tup (.inl upd_same) (hs.tk (tk_new hp))
mutual
theorem DT.dp : ∀ {v : V} {d : PyData}, DT K H v d → Dp K H v d
  | _, _, .non => .non
  | _, _, .bl b => .bl b
  | _, _, .int i => .int i
  | _, _, .str x => .str x
  | _, _, .tup h hs => .tup h.sq (DTs.dp hs)
theorem DTs.dp : ∀ {vs : List V} {ds : List PyData}, DTs K H vs ds → DpAll K H vs ds
  | _, _, .nil => .nil
  | _, _, .cons h hs => .cons (DT.dp h) (DTs.dp hs)
end
/-! readings of data -/
theorem rx_dt {x : V} {ds : List PyData} {j : Nat} {d : PyData} {Q : VK} (h : DT K H x (.tuple ds)) (e : ds[j]? = some d) (q : ∀ y, DT K H y d → Q y H) : rIxT K x (.int (j : Int)) H Q := by
  obtain ⟨a, xs, rfl, ha, hs⟩ := h.inv
  obtain ⟨v, hv, hd⟩ := hs.get e
  exact ⟨a, xs, (j : Int), v, rfl, rfl, ha.sq, atI_nat hv, q v hd⟩
theorem rd_dt {i : Nat} {x : V} {σ : L2.St} {ds : List PyData} {j : Nat} {d : PyData} {Q : VK} (hx : σ[i]? = some (some x)) (h : DT K H x (.tuple ds)) (e : ds[j]? = some d) (q : ∀ y, DT K H y d → Q y H) : tOp (rIxT K) (tVar i) (tC (.int (j : Int))) σ H Q := ⟨x, hx, rx_dt h e q⟩
/-! fractions, points, turns -/
def eF (q : Rat) : PyData := .tuple [.int q.num, .int (q.den : Int)]
theorem fr_inv {v : V} {q : Rat} (h : DT K H v (eF q)) : ∃ p, v = .ref p ∧ SqT K H p [.int q.num, .int (q.den : Int)] := by
  obtain ⟨a, xs, rfl, ha, hs⟩ := DT.inv h
  cases hs with
  | cons h1 hs => cases hs with
    | cons h2 hs => cases hs; rw [h1.int_inv, h2.int_inv] at ha; exact ⟨a, rfl, ha.sq⟩
theorem fr_of {v : V} {q : Rat} (h : FrV H v q) : DT K H v (eF q) := by
  obtain ⟨p, rfl, h⟩ := h
  exact .tup (.inl h) (.cons (.int _) (.cons (.int _) .nil))
structure P3 where
  x : Rat
  y : Rat
  z : Rat
def eP (p : P3) : PyData := .tuple [eF p.x, eF p.y, eF p.z]
structure T3 where
  a : P3
  b : P3
  c : P3
def eT (t : T3) : PyData := .tuple [eP t.a, eP t.b, eP t.c]
def P3.add (p q : P3) : P3 := ⟨p.x + q.x, p.y + q.y, p.z + q.z⟩
def P3.sub (p q : P3) : P3 := ⟨p.x - q.x, p.y - q.y, p.z - q.z⟩
def P3.scale (p : P3) (k : Rat) : P3 := ⟨p.x * k, p.y * k, p.z * k⟩
def P3.dot (p q : P3) : Rat := p.x * q.x + p.y * q.y + p.z * q.z
def T3.app (t : T3) (p : P3) : P3 := ⟨t.a.dot p, t.b.dot p, t.c.dot p⟩
def T3.tr (t : T3) : T3 := ⟨⟨t.a.x, t.b.x, t.c.x⟩, ⟨t.a.y, t.b.y, t.c.y⟩, ⟨t.a.z, t.b.z, t.c.z⟩⟩
def T3.mul (s t : T3) : T3 := ⟨t.tr.app s.a, t.tr.app s.b, t.tr.app s.c⟩
def P3.B (n : Nat) (p : P3) : Prop := Rb n p.x ∧ Rb n p.y ∧ Rb n p.z
def T3.B (n : Nat) (t : T3) : Prop := t.a.B n ∧ t.b.B n ∧ t.c.B n
theorem dt3 {p : Addr} {v1 v2 v3 : V} {d1 d2 d3 : PyData} (hp : H p = none) (h1 : DT K H v1 d1) (h2 : DT K H v2 d2) (h3 : DT K H v3 d3) : DT K (upd H p (.tup [v1, v2, v3])) (.ref p) (.tuple [d1, d2, d3]) := dt_new hp (.cons h1 (.cons h2 (.cons h3 .nil)))
theorem dt2 {p : Addr} {v1 v2 : V} {d1 d2 : PyData} (hp : H p = none) (h1 : DT K H v1 d1) (h2 : DT K H v2 d2) : DT K (upd H p (.tup [v1, v2])) (.ref p) (.tuple [d1, d2]) := dt_new hp (.cons h1 (.cons h2 .nil))
end

/-! ### the program's fractions over data -/
section
variable {P : Program} {w : World} {K : PySem.W.Frag} {mg : Str → Option Value} {base : Heap}
def spD_two (K : PySem.W.Frag) (f : Rat → Rat → Rat) (ok : Rat → Prop) : Sp := fun vs H Q _ => ∃ v1 v2 q r m n, vs = [v1, v2] ∧ DT K H v1 (eF q) ∧ DT K H v2 (eF r) ∧ Rb m q ∧ Rb n r ∧ m + n ≤ 9000 ∧ ok r ∧ ∀ H' v, Same H H' → DT K H' v (eF (f q r)) → Q v H'
theorem two_lenD {f : Rat → Rat → Rat} {ok : Rat → Prop} {vs : List V} {H : Hp} {Q : VK} {E : XK} (h : spD_two K f ok vs H Q E) : vs.length = 2 := by
  obtain ⟨_, _, _, _, _, _, rfl, _⟩ := h
  rfl
theorem rd_ixS {i : Nat} {p : Addr} {xs : List V} {j : Int} {v : V} {σ : L2.St} {H : Hp} {Q : VK} (h : σ[i]? = some (some (.ref p))) (hp : SqT K H p xs) (ha : atI xs j = some v) (q : Q v H) :
    tOp (rIxT K) (tVar i) (tC (.int j)) σ H Q := ⟨.ref p, h, p, xs, j, v, rfl, rfl, hp, ha, q⟩
theorem okD_plus (T : Tx K mg w) : FnOk P w K mg base CX0 2 T.f_plus T.d_plus ["one", "other"] (spD_two K (fun q r => q + r) (fun _ => True)) := by
  have G_frac := ok_frac (P := P) (w := w) (base := base) T
  refine T.F_plus.ok sc_plus (fun vs H Q E h => two_lenD h) (fun cdv A outer s H vs Q E hr h => ?_)
  obtain ⟨_, _, q, r, m, n, rfl, f1, f2, ⟨bq, bq'⟩, ⟨br, br'⟩, hmn, ok, k⟩ := h
  obtain ⟨p1, rfl, h1⟩ := fr_inv f1
  obtain ⟨p2, rfl, h2⟩ := fr_inv f2
  refine ⟨_, (pss_one (ps_ret (pe_call G_frac (hr.mono (by first | decide | omega)) (by rfl) T.g_frac T.F_frac.kp T.b_frac .nil pass0 (pa_cons (pe_op op_add (pe_op op_mulX (pe_ix ix_tup (pv 0) pe_int (fun _ _ => rfl)) (pe_ix ix_tup (pv 1) pe_int (fun _ _ => rfl))) (pe_op op_mulX (pe_ix ix_tup (pv 1) pe_int (fun _ _ => rfl)) (pe_ix ix_tup (pv 0) pe_int (fun _ _ => rfl)))) (pa_cons (pe_op op_mulX (pe_ix ix_tup (pv 0) pe_int (fun _ _ => rfl)) (pe_ix ix_tup (pv 1) pe_int (fun _ _ => rfl))) pa_nil))))), ?_⟩
  refine rd_ixS rfl h1 rfl (rd_ixS rfl h2 rfl (rd_mul bq br' (by omega) (rd_ixS rfl h2 rfl (rd_ixS rfl h1 rfl (rd_mul br bq' (by omega) (rd_i0 (rd_ixS rfl h1 rfl (rd_ixS rfl h2 rfl (rd_mul bq' br' (by omega) ?_)))))))))
  exact ⟨_, _, rfl, Int.mul_ne_zero (den_ne q) (den_ne r), (bq'.mul br').mono (by omega), fun H' v s f => k H' v s (fr_of (by rw [rat_sum] at f; exact f))⟩
theorem okD_minus (T : Tx K mg w) : FnOk P w K mg base CX0 2 T.f_minus T.d_minus ["one", "other"] (spD_two K (fun q r => q - r) (fun _ => True)) := by
  have G_frac := ok_frac (P := P) (w := w) (base := base) T
  refine T.F_minus.ok sc_minus (fun vs H Q E h => two_lenD h) (fun cdv A outer s H vs Q E hr h => ?_)
  obtain ⟨_, _, q, r, m, n, rfl, f1, f2, ⟨bq, bq'⟩, ⟨br, br'⟩, hmn, ok, k⟩ := h
  obtain ⟨p1, rfl, h1⟩ := fr_inv f1
  obtain ⟨p2, rfl, h2⟩ := fr_inv f2
  refine ⟨_, (pss_one (ps_ret (pe_call G_frac (hr.mono (by first | decide | omega)) (by rfl) T.g_frac T.F_frac.kp T.b_frac .nil pass0 (pa_cons (pe_op op_sub (pe_op op_mulX (pe_ix ix_tup (pv 0) pe_int (fun _ _ => rfl)) (pe_ix ix_tup (pv 1) pe_int (fun _ _ => rfl))) (pe_op op_mulX (pe_ix ix_tup (pv 1) pe_int (fun _ _ => rfl)) (pe_ix ix_tup (pv 0) pe_int (fun _ _ => rfl)))) (pa_cons (pe_op op_mulX (pe_ix ix_tup (pv 0) pe_int (fun _ _ => rfl)) (pe_ix ix_tup (pv 1) pe_int (fun _ _ => rfl))) pa_nil))))), ?_⟩
  refine rd_ixS rfl h1 rfl (rd_ixS rfl h2 rfl (rd_mul bq br' (by omega) (rd_ixS rfl h2 rfl (rd_ixS rfl h1 rfl (rd_mul br bq' (by omega) (rd_i0 (rd_ixS rfl h1 rfl (rd_ixS rfl h2 rfl (rd_mul bq' br' (by omega) ?_)))))))))
  exact ⟨_, _, rfl, Int.mul_ne_zero (den_ne q) (den_ne r), (bq'.mul br').mono (by omega), fun H' v s f => k H' v s (fr_of (by rw [rat_less] at f; exact f))⟩
theorem okD_times (T : Tx K mg w) : FnOk P w K mg base CX0 2 T.f_times T.d_times ["one", "other"] (spD_two K (fun q r => q * r) (fun _ => True)) := by
  have G_frac := ok_frac (P := P) (w := w) (base := base) T
  refine T.F_times.ok sc_times (fun vs H Q E h => two_lenD h) (fun cdv A outer s H vs Q E hr h => ?_)
  obtain ⟨_, _, q, r, m, n, rfl, f1, f2, ⟨bq, bq'⟩, ⟨br, br'⟩, hmn, ok, k⟩ := h
  obtain ⟨p1, rfl, h1⟩ := fr_inv f1
  obtain ⟨p2, rfl, h2⟩ := fr_inv f2
  refine ⟨_, (pss_one (ps_ret (pe_call G_frac (hr.mono (by first | decide | omega)) (by rfl) T.g_frac T.F_frac.kp T.b_frac .nil pass0 (pa_cons (pe_op op_mulX (pe_ix ix_tup (pv 0) pe_int (fun _ _ => rfl)) (pe_ix ix_tup (pv 1) pe_int (fun _ _ => rfl))) (pa_cons (pe_op op_mulX (pe_ix ix_tup (pv 0) pe_int (fun _ _ => rfl)) (pe_ix ix_tup (pv 1) pe_int (fun _ _ => rfl))) pa_nil))))), ?_⟩
  refine rd_ixS rfl h1 rfl (rd_ixS rfl h2 rfl (rd_mul bq br (by omega) (rd_ixS rfl h1 rfl (rd_ixS rfl h2 rfl (rd_mul bq' br' (by omega) ?_)))))
  exact ⟨_, _, rfl, Int.mul_ne_zero (den_ne q) (den_ne r), (bq'.mul br').mono (by omega), fun H' v s f => k H' v s (fr_of (by rw [rat_prod] at f; exact f))⟩
def spD_sign (K : PySem.W.Frag) : Sp := fun vs H Q _ => ∃ v q, vs = [v] ∧ DT K H v (eF q) ∧ Q (.int q.num.sign) H
/-! dot -/
theorem DTs.frs {H : Hp} {i : Nat} {x : V} {xs : List V} {qs : List Rat} (h : DTs K H xs (qs.map eF)) (e : xs[i]? = some x) : ∃ q, qs[i]? = some q ∧ DT K H x (eF q) := by
  obtain ⟨d, hd, h⟩ := h.get' e
  rw [List.getElem?_map] at hd
  cases eq : qs[i]? with
  | none => rw [eq] at hd; cases hd
  | some q => rw [eq] at hd; cases hd; exact ⟨q, rfl, h⟩
def spD_dot (K : PySem.W.Frag) : Sp := fun vs H Q _ => ∃ v1 v2 p q, vs = [v1, v2] ∧ DT K H v1 (eP p) ∧ DT K H v2 (eP q) ∧ p.B 1000 ∧ q.B 1000 ∧ ∀ H' v, Same H H' → DT K H' v (eF (p.dot q)) → Q v H'
theorem okD_dot (T : Tx K mg w) : FnOk P w K mg base CX0 2 T.f_dot T.d_dot ["one", "other"] (spD_dot K) := by
  have G_frac := ok_frac (P := P) (w := w) (base := base) T
  refine T.F_dot.ok sc_dot (fun vs H Q E h => ?_) (fun cdv A outer s H vs Q E hr h => ?_)
  · obtain ⟨_, _, _, _, rfl, _⟩ := h
    rfl
  · obtain ⟨_, _, ⟨x1, x2, x3⟩, ⟨y1, y2, y3⟩, rfl, f1, f2, ⟨b1, b2, b3⟩, ⟨c1, c2, c3⟩, k⟩ := h
    obtain ⟨p1, xs, rfl, h1, a1⟩ := DT.inv f1
    obtain ⟨p2, ys, rfl, h2, a2⟩ := DT.inv f2
    have a1 : DTs K H xs ([x1, x2, x3].map eF) := a1
    have a2 : DTs K H ys ([y1, y2, y3].map eF) := a2
    have b1 : Rs 1000 [x1, x2, x3] := fun q hq => by
      simp only [List.mem_cons, List.not_mem_nil, or_false] at hq
      rcases hq with rfl | rfl | rfl <;> assumption
    have b2 : Rs 1000 [y1, y2, y3] := fun q hq => by
      simp only [List.mem_cons, List.not_mem_nil, or_false] at hq
      rcases hq with rfl | rfl | rfl <;> assumption
    refine ⟨_, (pss_cons (ps_asg (pe_tup (pa_cons pe_int (pa_cons pe_int pa_nil))) (pg_tup (by rfl) (pgs_cons (pg_name (i := 2) sc_dot.nd rfl (Or.inl rfl)) (pgs_cons (pg_name (i := 3) sc_dot.nd rfl (Or.inl rfl)) pgs_nil))))
      (pss_cons (ps_for PassesOwn.never rfl (RZ.pi_zipA (by rfl) T.m_zip (pa_cons (pv 0) (pa_cons (pv 1) pa_nil))) (pg_tup (by rfl) (pgs_cons (pg_name (i := 4) sc_dot.nd rfl (Or.inl rfl)) (pgs_cons (pg_name (i := 5) sc_dot.nd rfl (Or.inl rfl)) pgs_nil))) (pss_cons (ps_set (i := 6) sc_dot.nd rfl (Or.inl rfl) (pe_op op_mulX (pe_ix ix_tup (pv 4) pe_int (fun _ _ => rfl)) (pe_ix ix_tup (pv 5) pe_int (fun _ _ => rfl))))
      (pss_cons (ps_set (i := 2) sc_dot.nd rfl (Or.inl rfl) (pe_op op_add (pe_op op_mulX (pv 2) (pv 6)) (pe_op op_mulX (pe_op op_mulX (pe_ix ix_tup (pv 4) pe_int (fun _ _ => rfl)) (pe_ix ix_tup (pv 5) pe_int (fun _ _ => rfl))) (pv 3))))
      (pss_one (ps_set (i := 3) sc_dot.nd rfl (Or.inl rfl) (pe_op op_mulX (pv 3) (pv 6)))))))
      (pss_one (ps_ret (pe_call G_frac (hr.mono (by first | decide | omega)) (by rfl) T.g_frac T.F_frac.kp T.b_frac .nil pass0 (pa_cons (pv 2) (pa_cons (pv 3) pa_nil))))))), ?_⟩
    have hl : xs.length = 3 := a1.len
    have hl2 : ys.length = 3 := a2.len
    refine ⟨sz_n (by decide : 2 ≤ 1000), fun t0 n0 => ⟨t0, _, rfl, SqT.of upd_same, rfl, _, _, rfl, _, _, rfl, rfl, .ref p1, rfl, .ref p2, rfl, p1, p2, xs, ys, rfl, .inr ⟨(h1.tk (tk_new n0)).sq, (h2.tk (tk_new n0)).sq, ?_⟩⟩⟩
    refine RZ.for_zipT (hl.trans hl2.symm) (fun i σ H' => i ≤ 3 ∧ Same H H' ∧ ∃ (a b : Int) (y4 y5 y6 : Option V), σ = [some (.ref p1), some (.ref p2), some (.int a), some (.int b), y4, y5, y6] ∧ b ≠ 0 ∧ Bt (2001 * i + 1) a ∧ Bt (2001 * i + 1) b ∧ Rat.divInt a b = rsum ((prods [x1, x2, x3] [y1, y2, y3]).take i))
      ⟨by decide, same_upd n0, 0, 1, none, none, none, rfl, by decide, bt_lit (by decide), bt_lit (by decide), rfl⟩ (fun i σ H' h => ⟨same_tup h.2.1 h1.sq, same_tup h.2.1 h2.sq⟩) (fun i x y t σ H' hx hy h nt => ?_) (fun σ H' h => ?_)
    · obtain ⟨hi, hS, a, b, y4, y5, y6, rfl, hb, ba, bb, e⟩ := h
      obtain ⟨q, hq, f1⟩ := a1.frs hx
      obtain ⟨r, hr', f2⟩ := a2.frs hy
      have hi3 : i < 3 := by
        have := (List.getElem?_eq_some_iff.mp hx).1
        omega
      have sT : Same H (upd H' t (.tup [x, y])) := hS.trans (same_upd nt)
      obtain ⟨px, rfl, hx'⟩ := fr_inv (f1.same sT)
      obtain ⟨py, rfl, hy'⟩ := fr_inv (f2.same sT)
      obtain ⟨c1, c1'⟩ := rs_get b1 hq
      obtain ⟨c2, c2'⟩ := rs_get b2 hr'
      refine ⟨t, _, rfl, SqT.of upd_same, rfl, _, _, rfl, _, _, rfl, rfl, ?_⟩
      refine ⟨_, rfl, px, _, 1, _, rfl, rfl, hx', rfl, _, rfl, py, _, 1, _, rfl, rfl, hy', rfl, (q.den : Int), (r.den : Int), rfl, rfl, mulx_ok c1' c2' (by decide), ?_⟩
      refine ⟨_, rfl, _, rfl, a, _, rfl, rfl, mulx_ok ba (c1'.mul c2') (by omega), _, rfl, px, _, 0, _, rfl, rfl, hx', rfl, _, rfl, py, _, 0, _, rfl, rfl, hy', rfl, q.num, r.num, rfl, rfl, mulx_ok c1 c2 (by decide), _, rfl, _, b, rfl, rfl, mulx_ok (c1.mul c2) bb (by omega), _, _, rfl, rfl, ?_⟩
      refine ⟨_, rfl, _, rfl, b, _, rfl, rfl, mulx_ok bb (c1'.mul c2') (by omega), ?_⟩
      refine ⟨by omega, sT, _, _, _, _, _, rfl, Int.mul_ne_zero hb (Int.mul_ne_zero (den_ne q) (den_ne r)), ?_, ?_, ?_⟩
      · exact (((ba.mul (c1'.mul c2')).mono (show _ ≤ 2001 * i + 2001 by omega)).add (((c1.mul c2).mul bb).mono (show _ ≤ 2001 * i + 2001 by omega))).mono (by omega)
      · exact (bb.mul (c1'.mul c2')).mono (by omega)
      · rw [dot_step hq hr']
        exact dot_turn hb e
    · rw [hl] at h
      obtain ⟨_, hS, a, b, y4, y5, y6, rfl, hb, ba, bb, e⟩ := h
      refine ⟨_, rfl, _, rfl, a, b, rfl, hb, bb.mono (by decide), fun H2 v s2 f2 => k H2 v (hS.trans s2) ?_⟩
      rw [e, show rsum ((prods [x1, x2, x3] [y1, y2, y3]).take 3) = P3.dot ⟨x1, x2, x3⟩ ⟨y1, y2, y3⟩ by
        show rsum [x1 * y1, x2 * y2, x3 * y3] = x1 * y1 + x2 * y2 + x3 * y3
        simp only [rsum]; grind] at f2
      exact fr_of f2
/-! points -/
def spD_ptpt (K : PySem.W.Frag) (f : P3 → P3 → P3) : Sp := fun vs H Q _ => ∃ v1 v2 p q, vs = [v1, v2] ∧ DT K H v1 (eP p) ∧ DT K H v2 (eP q) ∧ p.B 4000 ∧ q.B 4000 ∧ ∀ H' v, Same H H' → DT K H' v (eP (f p q)) → Q v H'
theorem okD_together (T : Tx K mg w) : FnOk P w K mg base CX0 3 T.f_together T.d_together ["one", "other"] (spD_ptpt K P3.add) := by
  have G_plus := okD_plus (P := P) (w := w) (base := base) T
  refine T.F_together.ok sc_together (fun vs H Q E h => ?_) (fun cdv A outer s H vs Q E hr h => ?_)
  · obtain ⟨_, _, _, _, rfl, _⟩ := h
    rfl
  obtain ⟨v1, v2, p, q, rfl, h1, h2, ⟨b1, b2, b3⟩, ⟨c1, c2, c3⟩, k⟩ := h
  refine ⟨_, (pss_one (ps_ret (pe_tup (pa_cons (pe_call G_plus (hr.mono (by first | decide | omega)) (by rfl) T.g_plus T.F_plus.kp T.b_plus .nil pass0 (pa_cons (pe_ix ix_tup (pv 0) pe_int (fun _ _ => rfl)) (pa_cons (pe_ix ix_tup (pv 1) pe_int (fun _ _ => rfl)) pa_nil))) (pa_cons (pe_call G_plus (hr.mono (by first | decide | omega)) (by rfl) T.g_plus T.F_plus.kp T.b_plus .nil pass0 (pa_cons (pe_ix ix_tup (pv 0) pe_int (fun _ _ => rfl)) (pa_cons (pe_ix ix_tup (pv 1) pe_int (fun _ _ => rfl)) pa_nil))) (pa_cons (pe_call G_plus (hr.mono (by first | decide | omega)) (by rfl) T.g_plus T.F_plus.kp T.b_plus .nil pass0 (pa_cons (pe_ix ix_tup (pv 0) pe_int (fun _ _ => rfl)) (pa_cons (pe_ix ix_tup (pv 1) pe_int (fun _ _ => rfl)) pa_nil))) pa_nil)))))), ?_⟩
  refine rd_dt (j := 0) rfl h1 rfl fun x hx => rd_dt (j := 0) rfl h2 rfl fun y hy => ⟨_, _, _, _, 4000, 4000, rfl, hx, hy, b1, c1, by decide, trivial, fun H1 w1 S1 z1 => ?_⟩
  refine rd_dt (j := 1) rfl (h1.same S1) rfl fun x hx => rd_dt (j := 1) rfl (h2.same S1) rfl fun y hy => ⟨_, _, _, _, 4000, 4000, rfl, hx, hy, b2, c2, by decide, trivial, fun H2 w2 S2 z2 => ?_⟩
  have S12 := S1.trans S2
  refine rd_dt (j := 2) rfl (h1.same S12) rfl fun x hx => rd_dt (j := 2) rfl (h2.same S12) rfl fun y hy => ⟨_, _, _, _, 4000, 4000, rfl, hx, hy, b3, c3, by decide, trivial, fun H3 w3 S3 z3 => ?_⟩
  have S13 := S12.trans S3
  exact ⟨sz_n (by decide : 3 ≤ 1000), fun p hp => k _ _ (S13.trans (same_upd hp)) (dt3 hp (z1.same (S2.trans S3)) (z2.same S3) z3)⟩
end

/-! ### comprehensions that make data -/
section
variable {K : PySem.W.Frag}
theorem dts_snoc {H : Hp} {ys : List V} {ds : List PyData} {i : Nat} {y : V} {d : PyData} (h : DTs K H ys (ds.take i)) (e : ds[i]? = some d) (hy : DT K H y d) : DTs K H (ys ++ [y]) (ds.take (i + 1)) := by
  have hi := (List.getElem?_eq_some_iff.mp e).1
  have := (List.getElem?_eq_some_iff.mp e).2
  rw [List.take_succ_eq_append_getElem hi, this]
  exact h.append (.cons hy .nil)
def MapP (K : PySem.W.Frag) (H1 : Hp) (D : Addr) (ds : List PyData) (i : Nat) (H : Hp) : Prop := Same H1 H ∧ ∃ ys : List V, H D = some (.lst ys) ∧ DTs K H ys (ds.take i) ∧ ys.length = i
theorem MapP.start {H1 : Hp} {D : Addr} {ds : List PyData} (hn : H1 D = none) : MapP K H1 D ds 0 (upd H1 D (.lst [])) := ⟨same_upd hn, [], upd_same, .nil, rfl⟩
theorem MapP.next {H1 H H4 : Hp} {D : Addr} {ds : List PyData} {i : Nat} {y : V} {d : PyData} (hn : H1 D = none) (h : MapP K H1 D ds i H) (S : Same H H4) (e : ds[i]? = some d) (hy : DT K H4 y d) (hl : ds.length ≤ 1000) :
    ∃ acc, H4 D = some (.lst acc) ∧ acc.length < sizeLine ∧ MapP K H1 D ds (i + 1) (upd H4 D (.lst (acc ++ [y]))) := by
  obtain ⟨S1, ys, hD, hs, hlen⟩ := h
  have hD4 := S _ _ hD
  have hi := (List.getElem?_eq_some_iff.mp e).1
  refine ⟨ys, hD4, Nat.lt_of_le_of_lt (show ys.length ≤ 1000 by omega) (by decide), fun a o ho => ?_, _, upd_same, ?_, ?_⟩
  · rw [upd_ne (ne_of_none ho hn)]
    exact S _ _ (S1 _ _ ho)
  · exact dts_snoc (((hs.tk (Same.tk S)).tk (tk_lst hD4))) e (hy.tk (tk_lst hD4))
  · rw [List.length_append, hlen]; rfl
theorem lc_mapT {a : Addr} {xs : List V} {g : TG} {te : TE} {vs : List Nat} {σ : L2.St} {H1 : Hp} {D : Addr} {Qd : Hp → Prop} (ds : List PyData) (hn : H1 D = none) (ha : SqT K H1 a xs) (hl : ds.length = xs.length) (hz : ds.length ≤ 1000)
    (hs : ∀ (i : Nat) x H d, xs[i]? = some x → ds[i]? = some d → Same H1 H → ∀ R : VK, (∀ y H4, Same H H4 → DT K H4 y d → R y H4) → g x (wipe σ vs) H fun σ2 H2 => wipe σ2 vs = wipe σ vs ∧ te σ2 H2 R)
    (hd : ∀ H ys, Same H1 H → H D = some (.lst ys) → DTs K H ys ds → Qd H) :
    ∃ W : Nat → Nat → Hp → Prop, (∃ m, W 0 m (upd H1 D (.lst []))) ∧ ∀ i m H, W i m H →
      ((Itt K a).stop i H ∧ Qd H) ∨ ((Itt K a).go i H ∧ ∃ Nx : Hp → Prop, (∀ H', Nx H' → ∃ m', m' < m ∧ W (i + 1) m' H') ∧ ∀ x H', (Itt K a).yld i H x H' → g x (wipe σ vs) H' fun σ2 H2 => wipe σ2 vs = wipe σ vs ∧ tYes σ2 H2 fun b H3 =>
        if b = true then te σ2 H3 fun y H4 => ∃ acc, H4 D = some (.lst acc) ∧ acc.length < sizeLine ∧ Nx (upd H4 D (.lst (acc ++ [y]))) else Nx H3) := by
  refine lc_tup (K := K) (a := a) (xs := xs) (MapP K H1 D ds) (MapP.start hn) (fun i H _ p => same_tup p.1 ha) (fun i x H hx p => ?_) (fun H p => ?_)
  · have hi : i < ds.length := by rw [hl]; exact (List.getElem?_eq_some_iff.mp hx).1
    exact hs i x H _ hx (List.getElem?_eq_getElem hi) p.1 _ fun y H4 S hy => p.next hn S (List.getElem?_eq_getElem hi) hy hz
  · obtain ⟨S, ys, hD, h, _⟩ := p
    rw [← hl, List.take_length] at h
    exact hd H ys S hD h
theorem lc_mapR {n : Nat} {g : TG} {te : TE} {vs : List Nat} {σ : L2.St} {H1 : Hp} {D : Addr} {Qd : Hp → Prop} (ds : List PyData) (hn : H1 D = none) (hl : ds.length = n) (hz : n ≤ 1000)
    (hs : ∀ (i : Nat) H d, i < n → ds[i]? = some d → Same H1 H → ∀ R : VK, (∀ y H4, Same H H4 → DT K H4 y d → R y H4) → g (.int (0 + i)) (wipe σ vs) H fun σ2 H2 => wipe σ2 vs = wipe σ vs ∧ te σ2 H2 R)
    (hd : ∀ H ys, Same H1 H → H D = some (.lst ys) → DTs K H ys ds → Qd H) :
    ∃ W : Nat → Nat → Hp → Prop, (∃ m, W 0 m (upd H1 D (.lst []))) ∧ ∀ i m H, W i m H →
      ((Itr 0 n).stop i H ∧ Qd H) ∨ ((Itr 0 n).go i H ∧ ∃ Nx : Hp → Prop, (∀ H', Nx H' → ∃ m', m' < m ∧ W (i + 1) m' H') ∧ ∀ x H', (Itr 0 n).yld i H x H' → g x (wipe σ vs) H' fun σ2 H2 => wipe σ2 vs = wipe σ vs ∧ tYes σ2 H2 fun b H3 =>
        if b = true then te σ2 H3 fun y H4 => ∃ acc, H4 D = some (.lst acc) ∧ acc.length < sizeLine ∧ Nx (upd H4 D (.lst (acc ++ [y]))) else Nx H3) := by
  refine lc_range (lo := 0) (n := n) (MapP K H1 D ds) (MapP.start hn) (fun i H hi p => ?_) (fun H p => ?_)
  · have hi' : i < ds.length := by rw [hl]; exact hi
    exact hs i H _ hi (List.getElem?_eq_getElem hi') p.1 _ fun y H4 S hy => p.next hn S (List.getElem?_eq_getElem hi') hy (by rw [hl]; exact hz)
  · obtain ⟨S, ys, hD, h, _⟩ := p
    rw [← hl, List.take_length] at h
    exact hd H ys S hD h
end

/-! ### points, further; turns -/
section
variable {P : Program} {w : World} {K : PySem.W.Frag} {mg : Str → Option Value} {base : Heap}
theorem rd_dt2 {i : Nat} {x : V} {σ : L2.St} {H : Hp} {ds es : List PyData} {j k : Nat} {d : PyData} {Q : VK} (hx : σ[i]? = some (some x)) (h : DT K H x (.tuple ds)) (e : ds[j]? = some (.tuple es)) (e' : es[k]? = some d) (q : ∀ y, DT K H y d → Q y H) :
    tOp (rIxT K) (tOp (rIxT K) (tVar i) (tC (.int (j : Int)))) (tC (.int (k : Int))) σ H Q := ⟨x, hx, rd_c (rx_dt h e fun _ hy => rd_c (rx_dt hy e' q))⟩
def spD_scale (K : PySem.W.Frag) : Sp := fun vs H Q _ => ∃ v1 v2 p k, vs = [v1, v2] ∧ DT K H v1 (eP p) ∧ DT K H v2 (eF k) ∧ p.B 4000 ∧ Rb 4000 k ∧ ∀ H' v, Same H H' → DT K H' v (eP (p.scale k)) → Q v H'
theorem okD_stretched (T : Tx K mg w) : FnOk P w K mg base CX0 3 T.f_stretched T.d_stretched ["way", "by"] (spD_scale K) := by
  have G_times := okD_times (P := P) (w := w) (base := base) T
  refine T.F_stretched.ok sc_stretched (fun vs H Q E h => ?_) (fun cdv A outer s H vs Q E hr h => ?_)
  · obtain ⟨_, _, _, _, rfl, _⟩ := h
    rfl
  obtain ⟨v1, v2, p, c, rfl, h1, h2, ⟨b1, b2, b3⟩, bc, k⟩ := h
  refine ⟨_, (pss_one (ps_ret (pe_tup (pa_cons (pe_call G_times (hr.mono (by first | decide | omega)) (by rfl) T.g_times T.F_times.kp T.b_times .nil pass0 (pa_cons (pe_ix ix_tup (pv 0) pe_int (fun _ _ => rfl)) (pa_cons (pv 1) pa_nil))) (pa_cons (pe_call G_times (hr.mono (by first | decide | omega)) (by rfl) T.g_times T.F_times.kp T.b_times .nil pass0 (pa_cons (pe_ix ix_tup (pv 0) pe_int (fun _ _ => rfl)) (pa_cons (pv 1) pa_nil))) (pa_cons (pe_call G_times (hr.mono (by first | decide | omega)) (by rfl) T.g_times T.F_times.kp T.b_times .nil pass0 (pa_cons (pe_ix ix_tup (pv 0) pe_int (fun _ _ => rfl)) (pa_cons (pv 1) pa_nil))) pa_nil)))))), ?_⟩
  refine rd_dt (j := 0) rfl h1 rfl fun x hx => ⟨_, rfl, _, _, _, _, 4000, 4000, rfl, hx, h2, b1, bc, by decide, trivial, fun H1 w1 S1 z1 => ?_⟩
  refine rd_dt (j := 1) rfl (h1.same S1) rfl fun x hx => ⟨_, rfl, _, _, _, _, 4000, 4000, rfl, hx, h2.same S1, b2, bc, by decide, trivial, fun H2 w2 S2 z2 => ?_⟩
  have S12 := S1.trans S2
  refine rd_dt (j := 2) rfl (h1.same S12) rfl fun x hx => ⟨_, rfl, _, _, _, _, 4000, 4000, rfl, hx, h2.same S12, b3, bc, by decide, trivial, fun H3 w3 S3 z3 => ?_⟩
  have S13 := S12.trans S3
  exact ⟨sz_n (by decide : 3 ≤ 1000), fun p hp => k _ _ (S13.trans (same_upd hp)) (dt3 hp (z1.same (S2.trans S3)) (z2.same S3) z3)⟩
def spD_app (K : PySem.W.Frag) : Sp := fun vs H Q _ => ∃ v1 v2 t p, vs = [v1, v2] ∧ DT K H v1 (eT t) ∧ DT K H v2 (eP p) ∧ t.B 1000 ∧ p.B 1000 ∧ ∀ H' v, Same H H' → DT K H' v (eP (t.app p)) → Q v H'
theorem okD_turned (T : Tx K mg w) : FnOk P w K mg base CX0 3 T.f_turned T.d_turned ["turn", "way"] (spD_app K) := by
  have G_dot := okD_dot (P := P) (w := w) (base := base) T
  refine T.F_turned.ok sc_turned (fun vs H Q E h => ?_) (fun cdv A outer s H vs Q E hr h => ?_)
  · obtain ⟨_, _, _, _, rfl, _⟩ := h
    rfl
  obtain ⟨v1, v2, t, p, rfl, h1, h2, ⟨b1, b2, b3⟩, bp, k⟩ := h
  refine ⟨_, (pss_one (ps_ret (pe_tup (pa_cons (pe_call G_dot (hr.mono (by first | decide | omega)) (by rfl) T.g_dot T.F_dot.kp T.b_dot .nil pass0 (pa_cons (pe_ix ix_tup (pv 0) pe_int (fun _ _ => rfl)) (pa_cons (pv 1) pa_nil))) (pa_cons (pe_call G_dot (hr.mono (by first | decide | omega)) (by rfl) T.g_dot T.F_dot.kp T.b_dot .nil pass0 (pa_cons (pe_ix ix_tup (pv 0) pe_int (fun _ _ => rfl)) (pa_cons (pv 1) pa_nil))) (pa_cons (pe_call G_dot (hr.mono (by first | decide | omega)) (by rfl) T.g_dot T.F_dot.kp T.b_dot .nil pass0 (pa_cons (pe_ix ix_tup (pv 0) pe_int (fun _ _ => rfl)) (pa_cons (pv 1) pa_nil))) pa_nil)))))), ?_⟩
  refine rd_dt (j := 0) rfl h1 rfl fun x hx => ⟨_, rfl, _, _, _, _, rfl, hx, h2, b1, bp, fun H1 w1 S1 z1 => ?_⟩
  refine rd_dt (j := 1) rfl (h1.same S1) rfl fun x hx => ⟨_, rfl, _, _, _, _, rfl, hx, h2.same S1, b2, bp, fun H2 w2 S2 z2 => ?_⟩
  have S12 := S1.trans S2
  refine rd_dt (j := 2) rfl (h1.same S12) rfl fun x hx => ⟨_, rfl, _, _, _, _, rfl, hx, h2.same S12, b3, bp, fun H3 w3 S3 z3 => ?_⟩
  have S13 := S12.trans S3
  exact ⟨sz_n (by decide : 3 ≤ 1000), fun p hp => k _ _ (S13.trans (same_upd hp)) (dt3 hp (z1.same (S2.trans S3)) (z2.same S3) z3)⟩
def spD_cols (K : PySem.W.Frag) : Sp := fun vs H Q _ => ∃ v t, vs = [v] ∧ DT K H v (eT t) ∧ ∀ H' v, Same H H' → DT K H' v (eT t.tr) → Q v H'
theorem okD_columns_of (T : Tx K mg w) : FnOk P w K mg base CX0 1 T.f_columns_of T.d_columns_of ["turn"] (spD_cols K) := by
  refine T.F_columns_of.ok sc_columns_of (fun vs H Q E h => ?_) (fun cdv A outer s H vs Q E hr h => ?_)
  · obtain ⟨_, _, rfl, _⟩ := h
    rfl
  obtain ⟨v, t, rfl, h, k⟩ := h
  refine ⟨_, (pss_one (ps_ret (pe_tup (pa_cons (pe_tup (pa_cons (pe_ix ix_tup (pe_ix ix_tup (pv 0) pe_int (fun _ _ => rfl)) pe_int (fun _ _ => rfl)) (pa_cons (pe_ix ix_tup (pe_ix ix_tup (pv 0) pe_int (fun _ _ => rfl)) pe_int (fun _ _ => rfl)) (pa_cons (pe_ix ix_tup (pe_ix ix_tup (pv 0) pe_int (fun _ _ => rfl)) pe_int (fun _ _ => rfl)) pa_nil)))) (pa_cons (pe_tup (pa_cons (pe_ix ix_tup (pe_ix ix_tup (pv 0) pe_int (fun _ _ => rfl)) pe_int (fun _ _ => rfl)) (pa_cons (pe_ix ix_tup (pe_ix ix_tup (pv 0) pe_int (fun _ _ => rfl)) pe_int (fun _ _ => rfl)) (pa_cons (pe_ix ix_tup (pe_ix ix_tup (pv 0) pe_int (fun _ _ => rfl)) pe_int (fun _ _ => rfl)) pa_nil)))) (pa_cons (pe_tup (pa_cons (pe_ix ix_tup (pe_ix ix_tup (pv 0) pe_int (fun _ _ => rfl)) pe_int (fun _ _ => rfl)) (pa_cons (pe_ix ix_tup (pe_ix ix_tup (pv 0) pe_int (fun _ _ => rfl)) pe_int (fun _ _ => rfl)) (pa_cons (pe_ix ix_tup (pe_ix ix_tup (pv 0) pe_int (fun _ _ => rfl)) pe_int (fun _ _ => rfl)) pa_nil)))) pa_nil)))))), ?_⟩
  refine rd_dt2 (j := 0) (k := 0) rfl h rfl rfl fun x1 e1 => rd_dt2 (j := 1) (k := 0) rfl h rfl rfl fun x2 e2 => rd_dt2 (j := 2) (k := 0) rfl h rfl rfl fun x3 e3 => ⟨sz_n (by decide : 3 ≤ 1000), fun p hp => ?_⟩
  have h1 := h.same (same_upd hp (o := .tup [x1, x2, x3]))
  have c1 := dt3 hp e1 e2 e3
  have S1 := same_upd hp (o := .tup [x1, x2, x3])
  generalize upd H p (.tup [x1, x2, x3]) = H1 at h1 c1 S1 ⊢
  refine rd_dt2 (j := 0) (k := 1) rfl h1 rfl rfl fun x1 e1 => rd_dt2 (j := 1) (k := 1) rfl h1 rfl rfl fun x2 e2 => rd_dt2 (j := 2) (k := 1) rfl h1 rfl rfl fun x3 e3 => ⟨sz_n (by decide : 3 ≤ 1000), fun p2 hp2 => ?_⟩
  have h2 := h1.same (same_upd hp2 (o := .tup [x1, x2, x3]))
  have c2 := dt3 hp2 e1 e2 e3
  have S2 := same_upd hp2 (o := .tup [x1, x2, x3])
  generalize upd H1 p2 (.tup [x1, x2, x3]) = H2 at h2 c2 S2 ⊢
  refine rd_dt2 (j := 0) (k := 2) rfl h2 rfl rfl fun x1 e1 => rd_dt2 (j := 1) (k := 2) rfl h2 rfl rfl fun x2 e2 => rd_dt2 (j := 2) (k := 2) rfl h2 rfl rfl fun x3 e3 => ⟨sz_n (by decide : 3 ≤ 1000), fun p3 hp3 => ?_⟩
  have c3 := dt3 hp3 e1 e2 e3
  have S3 := same_upd hp3 (o := .tup [x1, x2, x3])
  generalize upd H2 p3 (.tup [x1, x2, x3]) = H3 at c3 S3 ⊢
  exact ⟨sz_n (by decide : 3 ≤ 1000), fun p4 hp4 => k _ _ (((S1.trans S2).trans S3).trans (same_upd hp4)) (dt3 hp4 (c1.same (S2.trans S3)) (c2.same S3) c3)⟩
/-- a turn about an axis -/
def rotT (ax : Str) (c s : Rat) : T3 := if ax = "x" then ⟨⟨1, 0, 0⟩, ⟨0, c, 0 - s⟩, ⟨0, s, c⟩⟩ else if ax = "y" then ⟨⟨c, 0, s⟩, ⟨0, 1, 0⟩, ⟨0 - s, 0, c⟩⟩ else ⟨⟨c, 0 - s, 0⟩, ⟨s, c, 0⟩, ⟨0, 0, 1⟩⟩
def spD_about (K : PySem.W.Frag) : Sp := fun vs H Q _ => ∃ ax v1 v2 c s, vs = [.str ax, v1, v2] ∧ DT K H v1 (eF c) ∧ DT K H v2 (eF s) ∧ Rb 4000 s ∧ ∀ H' v, Same H H' → DT K H' v (eT (rotT ax c s)) → Q v H'
theorem rb01 : Rb 4000 0 := ⟨bt_lit (by show (0 : Nat) < _; exact Nat.pow_pos (by decide)), Bt.mono (m := 1) (bt_lit (by decide)) (by decide)⟩
theorem vstr_eq {a b : Str} (h : decide (V.str a = V.str b) = true) : a = b := V.str.inj (of_decide_eq_true h)
theorem vstr_ne {a b : Str} (h : ¬ decide (V.str a = V.str b) = true) : ¬ a = b := fun e => h (decide_eq_true (congrArg V.str e))
/-- three rows of three things each, laid as tuples one behind another -/
theorem rows3 {te11 te12 te13 te21 te22 te23 te31 te32 te33 : TE} {σ : L2.St} {H : Hp} {Q : VK} {d11 d12 d13 d21 d22 d23 d31 d32 d33 : PyData}
    (r : ∀ H', Same H H' → ∀ (te : TE) (d : PyData), (te = te11 ∧ d = d11 ∨ te = te12 ∧ d = d12 ∨ te = te13 ∧ d = d13 ∨ te = te21 ∧ d = d21 ∨ te = te22 ∧ d = d22 ∨ te = te23 ∧ d = d23 ∨ te = te31 ∧ d = d31 ∨ te = te32 ∧ d = d32 ∨ te = te33 ∧ d = d33) → ∀ R : VK, (∀ x, DT K H' x d → R x H') → te σ H' R)
    (k : ∀ H' v, Same H H' → DT K H' v (.tuple [.tuple [d11, d12, d13], .tuple [d21, d22, d23], .tuple [d31, d32, d33]]) → Q v H') :
    tTup (tCons (tTup (tCons te11 (tCons te12 (tCons te13 tNil)))) (tCons (tTup (tCons te21 (tCons te22 (tCons te23 tNil)))) (tCons (tTup (tCons te31 (tCons te32 (tCons te33 tNil)))) tNil))) σ H Q := by
  refine r H (Same.refl _) te11 d11 (by simp) _ fun x1 e1 => r H (Same.refl _) te12 d12 (by simp) _ fun x2 e2 => r H (Same.refl _) te13 d13 (by simp) _ fun x3 e3 => ⟨sz_n (by decide : 3 ≤ 1000), fun p hp => ?_⟩
  have c1 := dt3 hp e1 e2 e3
  have S1 := same_upd hp (o := .tup [x1, x2, x3])
  generalize upd H p (.tup [x1, x2, x3]) = H1 at c1 S1 ⊢
  refine r H1 S1 te21 d21 (by simp) _ fun x1 e1 => r H1 S1 te22 d22 (by simp) _ fun x2 e2 => r H1 S1 te23 d23 (by simp) _ fun x3 e3 => ⟨sz_n (by decide : 3 ≤ 1000), fun p2 hp2 => ?_⟩
  have c2 := dt3 hp2 e1 e2 e3
  have S2 := same_upd hp2 (o := .tup [x1, x2, x3])
  generalize upd H1 p2 (.tup [x1, x2, x3]) = H2 at c2 S2 ⊢
  have S12 := S1.trans S2
  refine r H2 S12 te31 d31 (by simp) _ fun x1 e1 => r H2 S12 te32 d32 (by simp) _ fun x2 e2 => r H2 S12 te33 d33 (by simp) _ fun x3 e3 => ⟨sz_n (by decide : 3 ≤ 1000), fun p3 hp3 => ?_⟩
  have c3 := dt3 hp3 e1 e2 e3
  have S3 := same_upd hp3 (o := .tup [x1, x2, x3])
  generalize upd H2 p3 (.tup [x1, x2, x3]) = H3 at c3 S3 ⊢
  exact ⟨sz_n (by decide : 3 ≤ 1000), fun p4 hp4 => k _ _ ((S12.trans S3).trans (same_upd hp4)) (dt3 hp4 (c1.same (S2.trans S3)) (c2.same S3) c3)⟩
theorem okD_turn_about (T : Tx K mg w) : FnOk P w K mg base CX0 3 T.f_turn_about T.d_turn_about ["axis", "cosine", "sine"] (spD_about K) := by
  have G_minus := okD_minus (P := P) (w := w) (base := base) T
  refine T.F_turn_about.ok sc_turn_about (fun vs H Q E h => ?_) (fun cdv A outer s H vs Q E hr h => ?_)
  · obtain ⟨_, _, _, _, _, rfl, _⟩ := h
    rfl
  obtain ⟨ax, v1, v2, c, s, rfl, h1, h2, bs, k⟩ := h
  refine ⟨_, (pss_cons (ps_set (i := 3) sc_turn_about.nd rfl (Or.inl rfl) (pe_call G_minus (hr.mono (by first | decide | omega)) (by rfl) T.g_minus T.F_minus.kp T.b_minus .nil pass0 (pa_cons (pe_glob (v := .ref T.a_NOUGHT) (by rfl) T.g_NOUGHT rfl) (pa_cons (pv 2) pa_nil))))
      (pss_cons (ps_if (pt_cmpR op_eq (pv 0) pe_str (nomark _)) (pss_one (ps_ret (pe_tup (pa_cons (pe_tup (pa_cons (pe_glob (v := .ref T.a_ONE) (by rfl) T.g_ONE rfl) (pa_cons (pe_glob (v := .ref T.a_NOUGHT) (by rfl) T.g_NOUGHT rfl) (pa_cons (pe_glob (v := .ref T.a_NOUGHT) (by rfl) T.g_NOUGHT rfl) pa_nil)))) (pa_cons (pe_tup (pa_cons (pe_glob (v := .ref T.a_NOUGHT) (by rfl) T.g_NOUGHT rfl) (pa_cons (pv 1) (pa_cons (pv 3) pa_nil)))) (pa_cons (pe_tup (pa_cons (pe_glob (v := .ref T.a_NOUGHT) (by rfl) T.g_NOUGHT rfl) (pa_cons (pv 2) (pa_cons (pv 1) pa_nil)))) pa_nil)))))) pss_nil)
      (pss_cons (ps_if (pt_cmpR op_eq (pv 0) pe_str (nomark _)) (pss_one (ps_ret (pe_tup (pa_cons (pe_tup (pa_cons (pv 1) (pa_cons (pe_glob (v := .ref T.a_NOUGHT) (by rfl) T.g_NOUGHT rfl) (pa_cons (pv 2) pa_nil)))) (pa_cons (pe_tup (pa_cons (pe_glob (v := .ref T.a_NOUGHT) (by rfl) T.g_NOUGHT rfl) (pa_cons (pe_glob (v := .ref T.a_ONE) (by rfl) T.g_ONE rfl) (pa_cons (pe_glob (v := .ref T.a_NOUGHT) (by rfl) T.g_NOUGHT rfl) pa_nil)))) (pa_cons (pe_tup (pa_cons (pv 3) (pa_cons (pe_glob (v := .ref T.a_NOUGHT) (by rfl) T.g_NOUGHT rfl) (pa_cons (pv 1) pa_nil)))) pa_nil)))))) pss_nil)
      (pss_one (ps_ret (pe_tup (pa_cons (pe_tup (pa_cons (pv 1) (pa_cons (pv 3) (pa_cons (pe_glob (v := .ref T.a_NOUGHT) (by rfl) T.g_NOUGHT rfl) pa_nil)))) (pa_cons (pe_tup (pa_cons (pv 2) (pa_cons (pv 1) (pa_cons (pe_glob (v := .ref T.a_NOUGHT) (by rfl) T.g_NOUGHT rfl) pa_nil)))) (pa_cons (pe_tup (pa_cons (pe_glob (v := .ref T.a_NOUGHT) (by rfl) T.g_NOUGHT rfl) (pa_cons (pe_glob (v := .ref T.a_NOUGHT) (by rfl) T.g_NOUGHT rfl) (pa_cons (pe_glob (v := .ref T.a_ONE) (by rfl) T.g_ONE rfl) pa_nil)))) pa_nil))))))))), ?_⟩
  rw [show L2.start nm_turn_about [.str ax, v1, v2] = [some (.str ax), some v1, some v2, none] from rfl]
  refine ⟨_, rfl, _, _, _, _, 4000, 4000, rfl, (show DT K H (.ref T.a_NOUGHT) (eF 0) from T.k_NOUGHT H), h2, rb01, bs, by decide, trivial, fun H1 wb S1 zb => ?_⟩
  dsimp only [gName, List.set_cons_succ, List.set_cons_zero]
  have h1 := h1.same S1
  have h2 := h2.same S1
  have n0 : ∀ H, DT K H (.ref T.a_NOUGHT) (eF 0) := T.k_NOUGHT
  have n1 : ∀ H, DT K H (.ref T.a_ONE) (eF 1) := T.k_ONE
  refine ⟨_, rfl, rfl, _, rfl, ite2 (fun e => ?_) (fun e => ?_)⟩
  · have e := vstr_eq e
    refine rows3 (K := K) (d11 := eF 1) (d12 := eF 0) (d13 := eF 0) (d21 := eF 0) (d22 := eF c) (d23 := eF (0 - s)) (d31 := eF 0) (d32 := eF s) (d33 := eF c) (fun H' S te d hh R q => ?_) (fun H' v S hv => k H' v (S1.trans S) (by unfold rotT; rw [if_pos e]; exact hv))
    rcases hh with ⟨rfl, rfl⟩ | ⟨rfl, rfl⟩ | ⟨rfl, rfl⟩ | ⟨rfl, rfl⟩ | ⟨rfl, rfl⟩ | ⟨rfl, rfl⟩ | ⟨rfl, rfl⟩ | ⟨rfl, rfl⟩ | ⟨rfl, rfl⟩ <;>
      first | exact q _ (n1 _) | exact q _ (n0 _) | exact ⟨_, rfl, q _ (h1.same S)⟩ | exact ⟨_, rfl, q _ (h2.same S)⟩ | exact ⟨_, rfl, q _ (zb.same S)⟩
  have e1 := vstr_ne e
  refine ⟨_, rfl, rfl, _, rfl, ite2 (fun e => ?_) (fun e => ?_)⟩
  · have e := vstr_eq e
    refine rows3 (K := K) (d11 := eF c) (d12 := eF 0) (d13 := eF s) (d21 := eF 0) (d22 := eF 1) (d23 := eF 0) (d31 := eF (0 - s)) (d32 := eF 0) (d33 := eF c) (fun H' S te d hh R q => ?_) (fun H' v S hv => k H' v (S1.trans S) (by unfold rotT; rw [if_neg e1, if_pos e]; exact hv))
    rcases hh with ⟨rfl, rfl⟩ | ⟨rfl, rfl⟩ | ⟨rfl, rfl⟩ | ⟨rfl, rfl⟩ | ⟨rfl, rfl⟩ | ⟨rfl, rfl⟩ | ⟨rfl, rfl⟩ | ⟨rfl, rfl⟩ | ⟨rfl, rfl⟩ <;>
      first | exact q _ (n1 _) | exact q _ (n0 _) | exact ⟨_, rfl, q _ (h1.same S)⟩ | exact ⟨_, rfl, q _ (h2.same S)⟩ | exact ⟨_, rfl, q _ (zb.same S)⟩
  have e2 := vstr_ne e
  dsimp only [tNext, tRet]
  refine rows3 (K := K) (d11 := eF c) (d12 := eF (0 - s)) (d13 := eF 0) (d21 := eF s) (d22 := eF c) (d23 := eF 0) (d31 := eF 0) (d32 := eF 0) (d33 := eF 1) (fun H' S te d hh R q => ?_) (fun H' v S hv => k H' v (S1.trans S) (by unfold rotT; rw [if_neg e1, if_neg e2]; exact hv))
  rcases hh with ⟨rfl, rfl⟩ | ⟨rfl, rfl⟩ | ⟨rfl, rfl⟩ | ⟨rfl, rfl⟩ | ⟨rfl, rfl⟩ | ⟨rfl, rfl⟩ | ⟨rfl, rfl⟩ | ⟨rfl, rfl⟩ | ⟨rfl, rfl⟩ <;>
    first | exact q _ (n1 _) | exact q _ (n0 _) | exact ⟨_, rfl, q _ (h1.same S)⟩ | exact ⟨_, rfl, q _ (h2.same S)⟩ | exact ⟨_, rfl, q _ (zb.same S)⟩
def spD_mul (K : PySem.W.Frag) : Sp := fun vs H Q _ => ∃ v1 v2 s t, vs = [v1, v2] ∧ DT K H v1 (eT s) ∧ DT K H v2 (eT t) ∧ s.B 1000 ∧ t.B 1000 ∧ ∀ H' v, Same H H' → DT K H' v (eT (s.mul t)) → Q v H'
theorem tr_B {n : Nat} {t : T3} (h : t.B n) : t.tr.B n := by
  obtain ⟨⟨a, b, c⟩, ⟨d, e, f⟩, ⟨g, i, j⟩⟩ := h
  exact ⟨⟨a, d, g⟩, ⟨b, e, i⟩, ⟨c, f, j⟩⟩
theorem okD_one_behind_other (T : Tx K mg w) : FnOk P w K mg base CX0 4 T.f_one_behind_other T.d_one_behind_other ["outer", "inner"] (spD_mul K) := by
  have G_columns_of := okD_columns_of (P := P) (w := w) (base := base) T
  have G_turned := okD_turned (P := P) (w := w) (base := base) T
  refine T.F_one_behind_other.ok sc_one_behind_other (fun vs H Q E h => ?_) (fun cdv A outer s H vs Q E hr h => ?_)
  · obtain ⟨_, _, _, _, rfl, _⟩ := h
    rfl
  obtain ⟨v1, v2, s, t, rfl, h1, h2, ⟨b1, b2, b3⟩, bt, k⟩ := h
  refine ⟨_, (pss_cons (ps_set (i := 2) sc_one_behind_other.nd rfl (Or.inr rfl) (pe_call G_columns_of (hr.mono (by first | decide | omega)) (by rfl) T.g_columns_of T.F_columns_of.kp T.b_columns_of .nil pass0 (pa_cons (pv 1) pa_nil)))
      (pss_one (ps_ret (pe_callTy call_tuple_of (by rfl) T.m_tuple (by decide +kernel) (pa_cons (pe_lc (own := [("row", 3)]) (g := gName 3) (by rfl) sc_one_behind_other.nd (pi_tup (pv 0)) (blkOk_by (own := [("row", 3)]) (N := nm_one_behind_other) (sc := defScope s_one_behind_other) (by decide +kernel)) (fun _ _ _ _ _ => (pg_name (i := 3) sc_one_behind_other.nd rfl (Or.inl rfl))) (fun _ _ _ _ _ => pts_nil) (fun _ _ _ _ _ => (pe_call G_turned (hr.mono (by first | decide | omega)) (by rfl) T.g_turned T.F_turned.kp T.b_turned .nil pass0 (pa_cons (pv 2) (pa_cons (pv 3) pa_nil))))) pa_nil))))), ?_⟩
  refine ⟨_, rfl, _, _, rfl, h2, fun H1 vc S1 zc => ?_⟩
  have h1 := h1.same S1
  obtain ⟨a, xs, rfl, ha, hs⟩ := DT.inv h1
  refine ⟨_, rfl, a, rfl, ⟨_, ha.sq⟩, fun D nD => ?_⟩
  have hs : DTs K H1 xs ([s.a, s.b, s.c].map eP) := hs
  refine lc_mapT ([s.a, s.b, s.c].map fun r => eP (t.tr.app r)) nD ha.sq (hs.len.symm) (by show 3 ≤ 1000; decide) (fun i x H2 d hx hd S R q => ?_) (fun H2 ys S hD hys => ?_)
  · obtain ⟨d', e', hx'⟩ := hs.get' hx
    rw [List.getElem?_map] at hd e'
    cases er : [s.a, s.b, s.c][i]? with
    | none => rw [er] at hd; cases hd
    | some r =>
      rw [er] at hd e'
      cases hd
      cases e'
      have br : r.B 1000 := by
        have := List.mem_of_getElem? er
        simp only [List.mem_cons, List.not_mem_nil, or_false] at this
        rcases this with rfl | rfl | rfl <;> assumption
      exact ⟨rfl, _, rfl, _, rfl, _, _, _, _, rfl, zc.same S, hx'.same S, tr_B bt, br, fun H3 y S3 hy => q y H3 S3 hy⟩
  · exact ⟨D, ys, rfl, .inl ⟨SqL.of hD, fun l hl => k _ _ ((S1.trans S).trans (same_upd hl)) (dt_new hl hys)⟩⟩
end

/-! ### bodies laid out -/
inductive Form
  | box (lo hi : P3)
  | ball (m : P3) (r : Rat)
  | half (w : P3) (b : Rat)
  | two (word : Str) (i j : Nat)
  | slide (i : Nat) (w : P3)
  | turn (i : Nat) (ax : Str) (c s : Rat)
def eForm : Form → PyData
  | .box lo hi => .tuple [.str "box", eP lo, eP hi]
  | .ball m r => .tuple [.str "ball", eP m, eF r]
  | .half w b => .tuple [.str "half", eP w, eF b]
  | .two wd i j => .tuple [.str wd, .int (i : Int), .int (j : Int)]
  | .slide i w => .tuple [.str "slide", .int (i : Int), eP w]
  | .turn i ax c s => .tuple [.str "turn", .int (i : Int), .str ax, eF c, eF s]
structure Body where
  name : Str
  form : Form
def eBody (b : Body) : PyData := .tuple [.str b.name, eForm b.form]
structure Leaf where
  name : Str
  form : Form
  turn : T3
  slide : P3
def eLeaf (l : Leaf) : PyData := .tuple [.str l.name, eForm l.form, eT l.turn, eP l.slide]
structure Thing where
  i : Nat
  colour : Str
  mirror : Bool
  move : P3
def eThing (t : Thing) : PyData := .tuple [.int (t.i : Int), .str t.colour, .bool t.mirror, eP t.move]
def eScene (bs : List Body) (ts : List Thing) (la lo : PyData) : PyData := .tuple [.tuple (bs.map eBody), .tuple (ts.map eThing), la, lo]
def layL (bs : List Body) : Nat → Nat → T3 → P3 → List Leaf
  | 0, _, _, _ => []
  | f + 1, i, t, s => match bs[i]? with
    | none => []
    | some b => match b.form with
      | .slide j w => layL bs f j t ((t.app w).add s)
      | .turn j ax c sn => layL bs f j (t.mul (rotT ax c sn)) s
      | .two _ j k => layL bs f j t s ++ layL bs f k t s
      | fm => [⟨b.name, fm, t, s⟩]
def layN (bs : List Body) : Nat → Nat → Nat
  | 0, _ => 0
  | f + 1, i => match bs[i]? with
    | none => 0
    | some b => match b.form with
      | .slide j _ => layN bs f j
      | .turn j _ _ _ => layN bs f j
      | .two _ j k => layN bs f j + layN bs f k
      | _ => 1
def layS (bs : List Body) : Nat → Nat → Nat → List PyData
  | 0, _, _ => []
  | f + 1, i, n => match bs[i]? with
    | none => []
    | some b => match b.form with
      | .slide j _ => layS bs f j n
      | .turn j _ _ _ => layS bs f j n
      | .two wd j k => layS bs f j n ++ (layS bs f k (n + layN bs f j) ++ [.str wd])
      | _ => [.int (n : Int)]
def LayOk (bs : List Body) : Nat → Nat → T3 → P3 → Prop
  | 0, _, _, _ => False
  | f + 1, i, t, s => ∃ b, bs[i]? = some b ∧ match b.form with
      | .slide j w => t.B 1000 ∧ w.B 1000 ∧ (t.app w).B 4000 ∧ s.B 4000 ∧ LayOk bs f j t ((t.app w).add s)
      | .turn j ax c sn => Rb 4000 sn ∧ t.B 1000 ∧ (rotT ax c sn).B 1000 ∧ LayOk bs f j (t.mul (rotT ax c sn)) s
      | .two wd j k => (wd = "join" ∨ wd = "cut" ∨ wd = "meet") ∧ LayOk bs f j t s ∧ LayOk bs f k t s
      | _ => True
theorem layL_len (bs : List Body) : ∀ f i t s, (layL bs f i t s).length = layN bs f i
  | 0, _, _, _ => rfl
  | f + 1, i, t, s => by
    unfold layL layN
    cases bs[i]? with
    | none => rfl
    | some b =>
      obtain ⟨nm, fm⟩ := b
      cases fm with
      | two wd j k => show (layL bs f j t s ++ layL bs f k t s).length = _; rw [List.length_append, layL_len, layL_len]
      | slide j w => exact layL_len bs f j _ _
      | turn j ax c sn => exact layL_len bs f j _ _
      | box _ _ => rfl
      | ball _ _ => rfl
      | half _ _ => rfl
section
variable {P : Program} {w : World} {K : PySem.W.Frag} {mg : Str → Option Value} {base : Heap}
/-- all but one address stands -/
def KB (L : Addr) (H H' : Hp) : Prop := ∀ a o, H a = some o → a ≠ L → H' a = some o
theorem KB.refl {L : Addr} {H : Hp} : KB L H H := fun _ _ h _ => h
theorem KB.trans {L : Addr} {H H1 H2 : Hp} (a : KB L H H1) (b : KB L H1 H2) : KB L H H2 := fun x o h n => b x o (a x o h n) n
theorem KB.of {L : Addr} {H H' : Hp} (e : Same H H') : KB L H H' := fun a o h _ => e a o h
theorem KB.tk {L : Addr} {H H' : Hp} {ls : List V} (e : KB L H H') (hL : H L = some (.lst ls)) : TK H H' := fun a xs h => e a _ h (ne_of h hL fun z => by cases z)
def sp_lay (K : PySem.W.Frag) (n : Nat) : Sp := fun vs H Q _ => ∃ vb vt vp L i bs t s ls, vs = [vb, .int ((i : Nat) : Int), vt, vp, .ref L] ∧ DT K H vb (.tuple (bs.map eBody)) ∧ DT K H vt (eT t) ∧ DT K H vp (eP s) ∧ H L = some (.lst ls) ∧ LayOk bs n i t s ∧ ls.length + layN bs n i ≤ 1000 ∧ (layS bs n i ls.length).length ≤ 1000 ∧
  ∀ H' p vls us, KB L H H' → H' L = some (.lst (ls ++ vls)) → DTs K H' vls ((layL bs n i t s).map eLeaf) → H p = none → H' p = some (.lst us) → DTs K H' us (layS bs n i ls.length) → Q (.ref p) H'
theorem get_body {H : Hp} {vb : V} {bs : List Body} {i : Nat} {b : Body} {Q : VK} (h : DT K H vb (.tuple (bs.map eBody))) (e : bs[i]? = some b) (q : ∀ y, DT K H y (eBody b) → Q y H) : rIxT K vb (.int ((i : Nat) : Int)) H Q :=
  rx_dt h (by rw [List.getElem?_map, e]; rfl) q
theorem body_inv {H : Hp} {y : V} {b : Body} (h : DT K H y (eBody b)) : ∃ a vf, y = .ref a ∧ SqT K H a [.str b.name, vf] ∧ DT K H vf (eForm b.form) := by
  obtain ⟨a, xs, rfl, ha, hs⟩ := DT.inv h
  cases hs with
  | cons h1 hs => cases hs with
    | cons h2 hs => cases hs; rw [h1.str_inv] at ha; exact ⟨a, _, rfl, ha.sq, h2⟩
theorem tw_lay (T : Tx K mg w) : ∀ n, FnOk P w K mg base CX0 (n + 6) T.f_lay T.d_lay ["bodies", "number", "turn", "slide", "leaves"] (sp_lay K n)
  | 0 => ⟨fun vs H Q E h => by
      obtain ⟨_, _, _, _, _, _, _, _, _, rfl, _⟩ := h
      rfl, fun A outer s H args us vs Q E _ _ _ _ h => by
      obtain ⟨_, _, _, _, _, _, _, _, _, rfl, _, _, _, _, h, _⟩ := h
      exact h.elim⟩
  | n + 1 => by
    have G_lay := tw_lay T n
    have G_together := okD_together (P := P) (w := w) (base := base) T
    have G_turned := okD_turned (P := P) (w := w) (base := base) T
    have G_turn_about := okD_turn_about (P := P) (w := w) (base := base) T
    have G_one_behind_other := okD_one_behind_other (P := P) (w := w) (base := base) T
    refine T.F_lay.ok sc_lay (fun vs H Q E h => ?_) (fun cdv A outer s H vs Q E hr h => ?_)
    · obtain ⟨_, _, _, _, _, _, _, _, _, rfl, _⟩ := h
      rfl
    obtain ⟨vb, vt, vp, L, i, bs, t, s, ls, rfl, hb, ht, hp, hL, ⟨b, eb, ok⟩, hN, hS, k⟩ := h
    refine ⟨_, (pss_cons (ps_asg (pe_ix ix_tup (pv 0) (pv 1) (fun _ _ => rfl)) (pg_tup (by rfl) (pgs_cons (pg_name (i := 5) sc_lay.nd rfl (Or.inl rfl)) (pgs_cons (pg_name (i := 6) sc_lay.nd rfl (Or.inl rfl)) pgs_nil))))
      (pss_cons (ps_set (i := 7) sc_lay.nd rfl (Or.inl rfl) (pe_ix ix_tup (pv 6) pe_int (fun _ _ => rfl)))
      (pss_cons (ps_if (pt_cmpR op_eq (pv 7) pe_str (nomark _)) (pss_one (ps_ret (pe_call G_lay (hr.mono (by first | decide | omega)) (by rfl) T.g_lay T.F_lay.kp T.b_lay .nil pass0 (pa_cons (pv 0) (pa_cons (pe_ix ix_tup (pv 6) pe_int (fun _ _ => rfl)) (pa_cons (pv 2) (pa_cons (pe_call G_together (hr.mono (by first | decide | omega)) (by rfl) T.g_together T.F_together.kp T.b_together .nil pass0 (pa_cons (pe_call G_turned (hr.mono (by first | decide | omega)) (by rfl) T.g_turned T.F_turned.kp T.b_turned .nil pass0 (pa_cons (pv 2) (pa_cons (pe_ix ix_tup (pv 6) pe_int (fun _ _ => rfl)) pa_nil))) (pa_cons (pv 3) pa_nil))) (pa_cons (pv 4) pa_nil)))))))) pss_nil)
      (pss_cons (ps_if (pt_cmpR op_eq (pv 7) pe_str (nomark _)) (pss_one (ps_ret (pe_call G_lay (hr.mono (by first | decide | omega)) (by rfl) T.g_lay T.F_lay.kp T.b_lay .nil pass0 (pa_cons (pv 0) (pa_cons (pe_ix ix_tup (pv 6) pe_int (fun _ _ => rfl)) (pa_cons (pe_call G_one_behind_other (hr.mono (by first | decide | omega)) (by rfl) T.g_one_behind_other T.F_one_behind_other.kp T.b_one_behind_other .nil pass0 (pa_cons (pv 2) (pa_cons (pe_call G_turn_about (hr.mono (by first | decide | omega)) (by rfl) T.g_turn_about T.F_turn_about.kp T.b_turn_about .nil pass0 (pa_cons (pe_ix ix_tup (pv 6) pe_int (fun _ _ => rfl)) (pa_cons (pe_ix ix_tup (pv 6) pe_int (fun _ _ => rfl)) (pa_cons (pe_ix ix_tup (pv 6) pe_int (fun _ _ => rfl)) pa_nil)))) pa_nil))) (pa_cons (pv 3) (pa_cons (pv 4) pa_nil)))))))) pss_nil)
      (pss_cons (ps_if (pt_truth (pe_ix ix_kdict (pe_glob (v := .ref T.a_SPOKEN_OF) (by rfl) T.g_SPOKEN_OF rfl) (pv 7) (fun _ _ => rfl)) (by intro _; rfl)) (pss_cons (ps_set (i := 8) sc_lay.nd rfl (Or.inl rfl) (pe_call G_lay (hr.mono (by first | decide | omega)) (by rfl) T.g_lay T.F_lay.kp T.b_lay .nil pass0 (pa_cons (pv 0) (pa_cons (pe_ix ix_tup (pv 6) pe_int (fun _ _ => rfl)) (pa_cons (pv 2) (pa_cons (pv 3) (pa_cons (pv 4) pa_nil)))))))
      (pss_cons (ps_set (i := 9) sc_lay.nd rfl (Or.inl rfl) (pe_call G_lay (hr.mono (by first | decide | omega)) (by rfl) T.g_lay T.F_lay.kp T.b_lay .nil pass0 (pa_cons (pv 0) (pa_cons (pe_ix ix_tup (pv 6) pe_int (fun _ _ => rfl)) (pa_cons (pv 2) (pa_cons (pv 3) (pa_cons (pv 4) pa_nil)))))))
      (pss_one (ps_ret (pe_lst (StX.pa_star (pv 8) (StX.pa_star (pv 9) (pa_cons (pv 7) pa_nil)))))))) pss_nil)
      (pss_cons (ps_expr (pe_bm PySem.F.plainAttrs_list PySem.F.slot_list_append PySem.F.type_list_append mt_append (pv 4) (pa_cons (pe_tup (pa_cons (pv 5) (pa_cons (pv 6) (pa_cons (pv 2) (pa_cons (pv 3) pa_nil))))) pa_nil)))
      (pss_one (ps_ret (pe_lst (pa_cons (pe_op op_sub (pe_callB call_len_seq (by rfl) T.m_len (by decide +kernel) (pa_cons (pv 4) pa_nil)) pe_int) pa_nil)))))))))), ?_⟩
    rw [show L2.start nm_lay [vb, .int ((i : Nat) : Int), vt, vp, .ref L] = [some vb, some (.int ((i : Nat) : Int)), some vt, some vp, some (.ref L), none, none, none, none, none] from rfl]
    refine ⟨_, rfl, _, rfl, get_body hb eb fun y hy => ?_⟩
    obtain ⟨ay, vf, rfl, hay, hf⟩ := body_inv hy
    refine ⟨ay, _, rfl, hay, rfl, _, _, rfl, _, _, rfl, rfl, ?_⟩
    dsimp only [gName, List.set_cons_succ, List.set_cons_zero]
    obtain ⟨nm, fm⟩ := b
    have wd : ∀ {x : Str} {ds : List PyData} {Q : VK}, DT K H vf (.tuple (.str x :: ds)) → Q (.str x) H → rIxT K vf (.int 0) H Q := fun h q => rx_dt (j := 0) h rfl fun y hy => by rw [hy.str_inv]; exact q
    cases fm with
    | slide j wv =>
      obtain ⟨b1, b2, b3, b4, ok⟩ := ok
      refine ⟨_, rfl, rd_c (wd hf ?_)⟩
      dsimp only [gName, List.set_cons_succ, List.set_cons_zero]
      refine ⟨_, rfl, rfl, _, rfl, iteT ?_⟩
      refine ⟨_, rfl, ⟨_, rfl, rd_c (rx_dt (j := 1) hf rfl fun y hy => ?_)⟩⟩
      cases hy.int_inv
      refine ⟨_, rfl, _, rfl, _, rfl, rd_c (rx_dt (j := 2) hf rfl fun y hy => ?_)⟩
      refine ⟨_, _, _, _, rfl, ht, hy, b1, b2, fun H1 w1 S1 z1 => ?_⟩
      refine ⟨_, rfl, _, _, _, _, rfl, z1, hp.same S1, b3, b4, fun H2 w2 S2 z2 => ?_⟩
      have S12 := S1.trans S2
      exact ⟨_, rfl, _, _, _, L, j, bs, t, _, ls, rfl, hb.same S12, ht.same S12, z2, S12 _ _ hL, ok, by unfold layN at hN; rw [eb] at hN; exact hN, by unfold layS at hS; rw [eb] at hS; exact hS, fun H3 p vls us kb hL3 hl hp3 hpp hu => k H3 p vls us ((KB.of S12).trans kb) hL3 (by unfold layL; rw [eb]; exact hl) (S12.free hp3) hpp (by unfold layS; rw [eb]; exact hu)⟩
    | turn j ax c sn =>
      obtain ⟨b1, b2, b3, ok⟩ := ok
      refine ⟨_, rfl, rd_c (wd hf ?_)⟩
      dsimp only [gName, List.set_cons_succ, List.set_cons_zero]
      refine ⟨_, rfl, rfl, _, rfl, iteF ?_⟩
      refine ⟨_, rfl, rfl, _, rfl, iteT ?_⟩
      refine ⟨_, rfl, ⟨_, rfl, rd_c (rx_dt (j := 1) hf rfl fun y hy => ?_)⟩⟩
      cases hy.int_inv
      refine ⟨_, rfl, _, rfl, rd_c (rx_dt (j := 2) hf rfl fun y hy => ?_)⟩
      cases hy.str_inv
      refine ⟨_, rfl, rd_c (rx_dt (j := 3) hf rfl fun y3 hy3 => ?_)⟩
      refine ⟨_, rfl, rd_c (rx_dt (j := 4) hf rfl fun y4 hy4 => ?_)⟩
      refine ⟨_, _, _, _, _, rfl, hy3, hy4, b1, fun H1 w1 S1 z1 => ?_⟩
      refine ⟨_, _, _, _, rfl, ht.same S1, z1, b2, b3, fun H2 w2 S2 z2 => ?_⟩
      have S12 := S1.trans S2
      exact ⟨_, rfl, _, rfl, _, _, _, L, j, bs, _, _, ls, rfl, hb.same S12, z2, hp.same S12, S12 _ _ hL, ok, by unfold layN at hN; rw [eb] at hN; exact hN, by unfold layS at hS; rw [eb] at hS; exact hS, fun H3 p vls us kb hL3 hl hp3 hpp hu => k H3 p vls us ((KB.of S12).trans kb) hL3 (by unfold layL; rw [eb]; exact hl) (S12.free hp3) hpp (by unfold layS; rw [eb]; exact hu)⟩
    | two wv j l =>
      obtain ⟨hw, ok1, ok2⟩ := ok
      have hN : ls.length + (layN bs n j + layN bs n l) ≤ 1000 := by unfold layN at hN; rw [eb] at hN; exact hN
      have hS : (layS bs n j ls.length ++ (layS bs n l (ls.length + layN bs n j) ++ [PyData.str wv])).length ≤ 1000 := by unfold layS at hS; rw [eb] at hS; exact hS
      rw [List.length_append, List.length_append] at hS
      have hk : KDct K w T.a_SPOKEN_OF wv (.int 2) := by
        rcases hw with rfl | rfl | rfl
        · exact T.k_SPOKEN_OF_join
        · exact T.k_SPOKEN_OF_cut
        · exact T.k_SPOKEN_OF_meet
      have n1 : ¬ wv = "slide" := by rcases hw with rfl | rfl | rfl <;> decide +kernel
      have n2 : ¬ wv = "turn" := by rcases hw with rfl | rfl | rfl <;> decide +kernel
      refine ⟨_, rfl, rd_c (wd hf ?_)⟩
      dsimp only [gName, List.set_cons_succ, List.set_cons_zero]
      refine ⟨_, rfl, rfl, _, rfl, ite_no (fun z => n1 (vstr_eq z)) ?_⟩
      refine ⟨_, rfl, rfl, _, rfl, ite_no (fun z => n2 (vstr_eq z)) ?_⟩
      refine ⟨.str wv, rfl, T.a_SPOKEN_OF, wv, .int 2, rfl, rfl, hk, (2 : Int) != 0, rfl, iteT ?_⟩
      refine ⟨_, rfl, ⟨_, rfl, rd_c (rx_dt (j := 1) hf rfl fun y hy => ?_)⟩⟩
      cases hy.int_inv
      refine ⟨_, rfl, _, rfl, _, rfl, _, _, _, L, j, bs, t, s, ls, rfl, hb, ht, hp, hL, ok1, by omega, by omega, fun H1 p1 v1 u1 kb1 hL1 hl1 hp1 hpp1 hu1 => ?_⟩
      dsimp only [gName, List.set_cons_succ, List.set_cons_zero]
      have T1 := kb1.tk hL
      have e1 : (ls ++ v1).length = ls.length + layN bs n j := by rw [List.length_append, hl1.len, List.length_map, layL_len]
      refine ⟨_, rfl, ⟨_, rfl, rd_c (rx_dt (j := 2) (hf.tk T1) rfl fun y hy => ?_)⟩⟩
      cases hy.int_inv
      refine ⟨_, rfl, _, rfl, _, rfl, _, _, _, L, l, bs, t, s, ls ++ v1, rfl, hb.tk T1, ht.tk T1, hp.tk T1, hL1, ok2, by omega, by rw [e1]; omega, fun H2 p2 v2 u2 kb2 hL2 hl2 hp2 hpp2 hu2 => ?_⟩
      dsimp only [gName, List.set_cons_succ, List.set_cons_zero]
      have T2 := kb2.tk hL1
      have np1 : p1 ≠ L := fun z => by rw [z, hL] at hp1; cases hp1
      have hpp1' := kb2 p1 _ hpp1 np1
      rw [e1] at hu2
      have len1 := hu1.len
      have len2 := hu2.len
      refine ⟨_, rfl, p1, u1, rfl, .inr (SqL.of hpp1'), _, rfl, p2, u2, rfl, .inr (SqL.of hpp2), _, rfl, ?_⟩
      refine ⟨sz_n (by rw [List.length_append, List.length_append, len1, len2]; exact hS), fun r hr' => ?_⟩
      have nrL : r ≠ L := fun z => by rw [z, hL2] at hr'; cases hr'
      have hr1 : H r = none := by
        cases e : H r with
        | none => rfl
        | some o => have := (kb1.trans kb2) r o e nrL; rw [this] at hr'; cases hr'
      have S3 := same_upd hr' (o := .lst (u1 ++ (u2 ++ [.str wv])))
      refine k _ r (v1 ++ v2) (u1 ++ (u2 ++ [.str wv])) ((kb1.trans kb2).trans (KB.of S3)) ?_ ?_ hr1 upd_same ?_
      · rw [show ls ++ (v1 ++ v2) = ls ++ v1 ++ v2 from (List.append_assoc _ _ _).symm]; exact S3 _ _ hL2
      · unfold layL; rw [eb]
        show DTs K _ (v1 ++ v2) ((layL bs n j t s ++ layL bs n l t s).map eLeaf)
        rw [List.map_append]
        exact ((hl1.tk T2).tk (Same.tk S3)).append (hl2.tk (Same.tk S3))
      · unfold layS; rw [eb]
        exact ((hu1.tk T2).tk (Same.tk S3)).append ((hu2.tk (Same.tk S3)).append (.cons (.str _) .nil))
    | box lo hi =>
      clear ok
      refine ⟨_, rfl, rd_c (wd hf ?_)⟩
      dsimp only [gName, List.set_cons_succ, List.set_cons_zero]
      refine ⟨_, rfl, rfl, _, rfl, iteF ?_⟩
      refine ⟨_, rfl, rfl, _, rfl, iteF ?_⟩
      refine ⟨.str "box", rfl, T.a_SPOKEN_OF, "box", .int 0, rfl, rfl, T.k_SPOKEN_OF_box, (0 : Int) != 0, rfl, iteF ?_⟩
      have eN : layN bs (n + 1) i = 1 := by unfold layN; rw [eb]
      refine ⟨_, rfl, .inl ⟨rfl, _, SqL.of hL⟩, _, rfl, _, rfl, _, rfl, _, rfl, sz_n (by decide : 4 ≤ 1000), fun q hq => ?_⟩
      have hL1 : upd H q (.tup [.str nm, vf, vt, vp]) L = some (.lst ls) := same_upd hq _ _ hL
      refine ⟨L, _, _, rfl, rfl, hL1, small1000 (by omega), ?_⟩
      have S1 := same_upd hq (o := .tup [.str nm, vf, vt, vp])
      have zl : DT K (upd H q (.tup [.str nm, vf, vt, vp])) (.ref q) (eLeaf ⟨nm, .box lo hi, t, s⟩) := dt_new hq (.cons (.str _) (.cons hf (.cons ht (.cons hp .nil))))
      generalize upd H q (.tup [.str nm, vf, vt, vp]) = H1 at hL1 S1 zl ⊢
      refine ⟨_, rfl, L, _, rfl, .inl (SqL.of upd_same), _, _, rfl, rfl, sz_n (by decide : 1 ≤ 1000), fun r hr' => ?_⟩
      have nr : r ≠ L := fun z => by rw [z, upd_same] at hr'; cases hr'
      have hr1 : H1 r = none := by rw [upd_ne nr] at hr'; exact hr'
      have tk : TK H1 (upd (upd H1 L (.lst (ls ++ [.ref q]))) r (.lst [.int (((ls ++ [V.ref q]).length : Int) - 1)])) := (tk_lst hL1).trans (tk_new hr')
      refine k _ r [.ref q] [.int (((ls ++ [V.ref q]).length : Int) - 1)] (fun a o ho na => ?_) ?_ ?_ (S1.free hr1) upd_same ?_
      · rw [upd_ne (ne_of_none (S1 _ _ ho) hr1), upd_ne na]
        exact S1 _ _ ho
      · rw [upd_ne nr.symm, upd_same]
      · unfold layL; rw [eb]
        exact .cons (zl.tk tk) .nil
      · unfold layS; rw [eb]
        rw [show ((ls ++ [V.ref q]).length : Int) - 1 = (ls.length : Int) by rw [List.length_append]; show ((ls.length + 1 : Nat) : Int) - 1 = _; omega]
        exact .cons (.int _) .nil
    | ball m r0 =>
      clear ok
      refine ⟨_, rfl, rd_c (wd hf ?_)⟩
      dsimp only [gName, List.set_cons_succ, List.set_cons_zero]
      refine ⟨_, rfl, rfl, _, rfl, iteF ?_⟩
      refine ⟨_, rfl, rfl, _, rfl, iteF ?_⟩
      refine ⟨.str "ball", rfl, T.a_SPOKEN_OF, "ball", .int 0, rfl, rfl, T.k_SPOKEN_OF_ball, (0 : Int) != 0, rfl, iteF ?_⟩
      have eN : layN bs (n + 1) i = 1 := by unfold layN; rw [eb]
      refine ⟨_, rfl, .inl ⟨rfl, _, SqL.of hL⟩, _, rfl, _, rfl, _, rfl, _, rfl, sz_n (by decide : 4 ≤ 1000), fun q hq => ?_⟩
      have hL1 : upd H q (.tup [.str nm, vf, vt, vp]) L = some (.lst ls) := same_upd hq _ _ hL
      refine ⟨L, _, _, rfl, rfl, hL1, small1000 (by omega), ?_⟩
      have S1 := same_upd hq (o := .tup [.str nm, vf, vt, vp])
      have zl : DT K (upd H q (.tup [.str nm, vf, vt, vp])) (.ref q) (eLeaf ⟨nm, .ball m r0, t, s⟩) := dt_new hq (.cons (.str _) (.cons hf (.cons ht (.cons hp .nil))))
      generalize upd H q (.tup [.str nm, vf, vt, vp]) = H1 at hL1 S1 zl ⊢
      refine ⟨_, rfl, L, _, rfl, .inl (SqL.of upd_same), _, _, rfl, rfl, sz_n (by decide : 1 ≤ 1000), fun r hr' => ?_⟩
      have nr : r ≠ L := fun z => by rw [z, upd_same] at hr'; cases hr'
      have hr1 : H1 r = none := by rw [upd_ne nr] at hr'; exact hr'
      have tk : TK H1 (upd (upd H1 L (.lst (ls ++ [.ref q]))) r (.lst [.int (((ls ++ [V.ref q]).length : Int) - 1)])) := (tk_lst hL1).trans (tk_new hr')
      refine k _ r [.ref q] [.int (((ls ++ [V.ref q]).length : Int) - 1)] (fun a o ho na => ?_) ?_ ?_ (S1.free hr1) upd_same ?_
      · rw [upd_ne (ne_of_none (S1 _ _ ho) hr1), upd_ne na]
        exact S1 _ _ ho
      · rw [upd_ne nr.symm, upd_same]
      · unfold layL; rw [eb]
        exact .cons (zl.tk tk) .nil
      · unfold layS; rw [eb]
        rw [show ((ls ++ [V.ref q]).length : Int) - 1 = (ls.length : Int) by rw [List.length_append]; show ((ls.length + 1 : Nat) : Int) - 1 = _; omega]
        exact .cons (.int _) .nil
    | half m r0 =>
      clear ok
      refine ⟨_, rfl, rd_c (wd hf ?_)⟩
      dsimp only [gName, List.set_cons_succ, List.set_cons_zero]
      refine ⟨_, rfl, rfl, _, rfl, iteF ?_⟩
      refine ⟨_, rfl, rfl, _, rfl, iteF ?_⟩
      refine ⟨.str "half", rfl, T.a_SPOKEN_OF, "half", .int 0, rfl, rfl, T.k_SPOKEN_OF_half, (0 : Int) != 0, rfl, iteF ?_⟩
      have eN : layN bs (n + 1) i = 1 := by unfold layN; rw [eb]
      refine ⟨_, rfl, .inl ⟨rfl, _, SqL.of hL⟩, _, rfl, _, rfl, _, rfl, _, rfl, sz_n (by decide : 4 ≤ 1000), fun q hq => ?_⟩
      have hL1 : upd H q (.tup [.str nm, vf, vt, vp]) L = some (.lst ls) := same_upd hq _ _ hL
      refine ⟨L, _, _, rfl, rfl, hL1, small1000 (by omega), ?_⟩
      have S1 := same_upd hq (o := .tup [.str nm, vf, vt, vp])
      have zl : DT K (upd H q (.tup [.str nm, vf, vt, vp])) (.ref q) (eLeaf ⟨nm, .half m r0, t, s⟩) := dt_new hq (.cons (.str _) (.cons hf (.cons ht (.cons hp .nil))))
      generalize upd H q (.tup [.str nm, vf, vt, vp]) = H1 at hL1 S1 zl ⊢
      refine ⟨_, rfl, L, _, rfl, .inl (SqL.of upd_same), _, _, rfl, rfl, sz_n (by decide : 1 ≤ 1000), fun r hr' => ?_⟩
      have nr : r ≠ L := fun z => by rw [z, upd_same] at hr'; cases hr'
      have hr1 : H1 r = none := by rw [upd_ne nr] at hr'; exact hr'
      have tk : TK H1 (upd (upd H1 L (.lst (ls ++ [.ref q]))) r (.lst [.int (((ls ++ [V.ref q]).length : Int) - 1)])) := (tk_lst hL1).trans (tk_new hr')
      refine k _ r [.ref q] [.int (((ls ++ [V.ref q]).length : Int) - 1)] (fun a o ho na => ?_) ?_ ?_ (S1.free hr1) upd_same ?_
      · rw [upd_ne (ne_of_none (S1 _ _ ho) hr1), upd_ne na]
        exact S1 _ _ ho
      · rw [upd_ne nr.symm, upd_same]
      · unfold layL; rw [eb]
        exact .cons (zl.tk tk) .nil
      · unfold layS; rw [eb]
        rw [show ((ls ++ [V.ref q]).length : Int) - 1 = (ls.length : Int) by rw [List.length_append]; show ((ls.length + 1 : Nat) : Int) - 1 = _; omega]
        exact .cons (.int _) .nil
def I3 : T3 := ⟨⟨1, 0, 0⟩, ⟨0, 1, 0⟩, ⟨0, 0, 1⟩⟩
def spD_name (K : PySem.W.Frag) : Sp := fun vs H Q _ => ∃ v1 v2 bs ts la lo th b, vs = [v1, v2] ∧ DT K H v1 (eScene bs ts la lo) ∧ DT K H v2 (eThing th) ∧ bs[th.i]? = some b ∧ Q (.str b.name) H
theorem okD_name_of (T : Tx K mg w) : FnOk P w K mg base CX0 1 T.f_name_of T.d_name_of ["scene", "thing"] (spD_name K) := by
  refine T.F_name_of.ok sc_name_of (fun vs H Q E h => ?_) (fun cdv A outer s H vs Q E hr h => ?_)
  · obtain ⟨_, _, _, _, _, _, _, _, rfl, _⟩ := h
    rfl
  obtain ⟨v1, v2, bs, ts, la, lo, th, b, rfl, h1, h2, eb, k⟩ := h
  refine ⟨_, (pss_one (ps_ret (pe_ix ix_tup (pe_ix ix_tup (pe_ix ix_tup (pv 0) pe_int (fun _ _ => rfl)) (pe_ix ix_tup (pv 1) pe_int (fun _ _ => rfl)) (fun _ _ => rfl)) pe_int (fun _ _ => rfl)))), ?_⟩
  refine ⟨_, rfl, rd_c (rx_dt (j := 0) h1 rfl fun y hy => ?_)⟩
  refine ⟨_, rfl, rd_c (rx_dt (j := 0) h2 rfl fun z hz => ?_)⟩
  cases hz.int_inv
  refine get_body hy eb fun u hu => ?_
  refine rd_c (rx_dt (j := 0) hu rfl fun n hn => ?_)
  cases hn.str_inv
  exact k
/-- what a thing is laid out to -/
def laidD (bs : List Body) (n : Nat) (th : Thing) (m : Rat) : List PyData := [.tuple ((layL bs n th.i I3 (th.move.scale m)).map eLeaf), .tuple (layS bs n th.i 0)]
def LaidOk (bs : List Body) (n : Nat) (th : Thing) (m : Rat) : Prop := LayOk bs n th.i I3 (th.move.scale m) ∧ layN bs n th.i ≤ 1000 ∧ (layS bs n th.i 0).length ≤ 1000 ∧ th.move.B 4000 ∧ Rb 4000 m
def spD_lthing (K : PySem.W.Frag) (n : Nat) : Sp := fun vs H Q _ => ∃ v1 v2 v3 bs ts la lo th b m, vs = [v1, v2, v3] ∧ DT K H v1 (eScene bs ts la lo) ∧ DT K H v2 (eThing th) ∧ DT K H v3 (eF m) ∧ bs[th.i]? = some b ∧ LaidOk bs n th m ∧
  ∀ H' v, Same H H' → DT K H' v (.tuple (.str b.name :: laidD bs n th m)) → Q v H'
theorem okD_laid_thing (T : Tx K mg w) : FnOk P w K mg base CX0 19 T.f_laid_thing T.d_laid_thing ["scene", "thing", "moment"] (spD_lthing K 12) := by
  have G_lay := tw_lay (P := P) (w := w) (base := base) T 12
  have G_stretched := okD_stretched (P := P) (w := w) (base := base) T
  have G_name_of := okD_name_of (P := P) (w := w) (base := base) T
  refine T.F_laid_thing.ok sc_laid_thing (fun vs H Q E h => ?_) (fun cdv A outer s H vs Q E hr h => ?_)
  · obtain ⟨_, _, _, _, _, _, _, _, _, _, rfl, _⟩ := h
    rfl
  obtain ⟨v1, v2, v3, bs, ts, la, lo, th, b, m, rfl, h1, h2, h3, eb, ⟨ok, hN, hS, bm, bk⟩, k⟩ := h
  refine ⟨_, (pss_cons (ps_set (i := 3) sc_laid_thing.nd rfl (Or.inl rfl) (pe_lst pa_nil))
      (pss_cons (ps_set (i := 4) sc_laid_thing.nd rfl (Or.inl rfl) (pe_call G_lay (hr.mono (by first | decide | omega)) (by rfl) T.g_lay T.F_lay.kp T.b_lay .nil pass0 (pa_cons (pe_ix ix_tup (pv 0) pe_int (fun _ _ => rfl)) (pa_cons (pe_ix ix_tup (pv 1) pe_int (fun _ _ => rfl)) (pa_cons (pe_glob (v := .ref T.a_UNTURNED) (by rfl) T.g_UNTURNED rfl) (pa_cons (pe_call G_stretched (hr.mono (by first | decide | omega)) (by rfl) T.g_stretched T.F_stretched.kp T.b_stretched .nil pass0 (pa_cons (pe_ix ix_tup (pv 1) pe_int (fun _ _ => rfl)) (pa_cons (pv 2) pa_nil))) (pa_cons (pv 3) pa_nil)))))))
      (pss_one (ps_ret (pe_tup (pa_cons (pe_call G_name_of (hr.mono (by first | decide | omega)) (by rfl) T.g_name_of T.F_name_of.kp T.b_name_of .nil pass0 (pa_cons (pv 0) (pa_cons (pv 1) pa_nil))) (pa_cons (pe_callTy call_tuple_of (by rfl) T.m_tuple (by decide +kernel) (pa_cons (pv 3) pa_nil)) (pa_cons (pe_callTy call_tuple_of (by rfl) T.m_tuple (by decide +kernel) (pa_cons (pv 4) pa_nil)) pa_nil)))))))), ?_⟩
  rw [show L2.start nm_laid_thing [v1, v2, v3] = [some v1, some v2, some v3, none, none] from rfl]
  refine ⟨sz_n (by decide : 0 ≤ 1000), fun L nL => ?_⟩
  dsimp only [gName, List.set_cons_succ, List.set_cons_zero]
  have S1 := same_upd nL (o := .lst [])
  have hL : upd H L (.lst []) L = some (.lst []) := upd_same
  generalize upd H L (.lst []) = H1 at S1 hL ⊢
  refine ⟨_, rfl, rd_c (rx_dt (j := 0) (h1.same S1) rfl fun y hy => ?_)⟩
  refine ⟨_, rfl, rd_c (rx_dt (j := 0) (h2.same S1) rfl fun z hz => ?_)⟩
  cases hz.int_inv
  refine rd_c ⟨_, rfl, rd_c (rx_dt (j := 3) (h2.same S1) rfl fun u hu => ?_)⟩
  refine ⟨_, rfl, _, _, _, _, rfl, hu, h3.same S1, bm, bk, fun H2 w2 S2 z2 => ?_⟩
  have S12 := S1.trans S2
  refine ⟨_, rfl, _, _, _, L, th.i, bs, I3, _, [], rfl, hy.same S2, (T.k_UNTURNED H2 : DT K H2 _ (eT I3)), z2, S2 _ _ hL, ok, by simpa using hN, hS, fun H3 p vls us kb hL3 hl hp3 hpp hu => ?_⟩
  dsimp only [gName, List.set_cons_succ, List.set_cons_zero]
  have S3 : Same H H3 := fun a o ho => kb a o (S12 _ _ ho) (ne_of_none ho nL)
  refine ⟨_, rfl, _, rfl, _, _, _, _, _, _, _, _, rfl, h1.same S3, h2.same S3, eb, ?_⟩
  refine ⟨_, rfl, L, _, rfl, .inl ⟨SqL.of hL3, fun q hq => ?_⟩⟩
  have S4 := same_upd hq (o := .tup ([] ++ vls))
  refine ⟨_, rfl, p, us, rfl, .inl ⟨SqL.of (S4 _ _ hpp), fun r hr' => ?_⟩⟩
  have c1 : DT K (upd H3 q (.tup ([] ++ vls))) (.ref q) (.tuple ((layL bs 12 th.i I3 (th.move.scale m)).map eLeaf)) := dt_new hq hl
  have c2 := dt_new hr' (hu.tk (Same.tk S4))
  have S5 := same_upd hr' (o := .tup us)
  generalize upd (upd H3 q (.tup ([] ++ vls))) r (.tup us) = H5 at c2 S5 ⊢
  exact ⟨sz_n (by decide : 3 ≤ 1000), fun o ho => k _ _ (((S3.trans S4).trans S5).trans (same_upd ho)) (dt3 ho (.str _) (c1.same S5) c2)⟩
/-- the first thing of a name -/
def named (bs : List Body) (nm : Str) (th : Thing) : Bool := match bs[th.i]? with
  | some b => decide (b.name = nm)
  | none => false
def spD_laid (K : PySem.W.Frag) (n : Nat) : Sp := fun vs H Q _ => ∃ v1 v3 nm bs ts la lo th rest m, vs = [v1, .str nm, v3] ∧ DT K H v1 (eScene bs ts la lo) ∧ DT K H v3 (eF m) ∧ (∀ t ∈ ts, t.i < bs.length) ∧ ts.length ≤ 1000 ∧ ts.filter (named bs nm) = th :: rest ∧ LaidOk bs n th m ∧
  ∀ H' v, Same H H' → DT K H' v (.tuple (laidD bs n th m)) → Q v H'
theorem okD_laid_out (T : Tx K mg w) : FnOk P w K mg base CX0 20 T.f_laid_out T.d_laid_out ["scene", "name", "moment"] (spD_laid K 12) := by
  have G_laid_thing := okD_laid_thing (P := P) (w := w) (base := base) T
  have G_name_of := okD_name_of (P := P) (w := w) (base := base) T
  refine T.F_laid_out.ok sc_laid_out (fun vs H Q E h => ?_) (fun cdv A outer s H vs Q E hr h => ?_)
  · obtain ⟨_, _, _, _, _, _, _, _, _, _, rfl, _⟩ := h
    rfl
  obtain ⟨v1, v3, nm, bs, ts, la, lo, th, rest, m, rfl, h1, h3, hi, hn, ef, ok, k⟩ := h
  refine ⟨_, (pss_cons (ps_setLc (i := 3) (own := [("thing", 4)]) (g := gName 4) (by rfl) sc_laid_out.nd rfl rfl (sw_true rfl rfl rfl (by decide +kernel)) (pi_tup (pe_ix ix_tup (pv 0) pe_int (fun _ _ => rfl))) (blkOk_by (own := [("thing", 4)]) (N := nm_laid_out) (sc := defScope s_laid_out) (by decide +kernel)) (fun _ _ _ _ _ => (pg_name (i := 4) sc_laid_out.nd rfl (Or.inl rfl))) (fun _ _ _ _ _ => (pts_one (pt_cmpR op_eq (pe_call G_name_of (hr.mono (by first | decide | omega)) (by rfl) T.g_name_of T.F_name_of.kp T.b_name_of .nil pass0 (pa_cons (pv 0) (pa_cons (pv 4) pa_nil))) (pv 1) (nomark _)))) (fun _ _ _ _ _ => (pv 4)))
      (pss_one (ps_ret (pe_slice sl_tup (pe_call G_laid_thing (hr.mono (by first | decide | omega)) (by rfl) T.g_laid_thing T.F_laid_thing.kp T.b_laid_thing .nil pass0 (pa_cons (pv 0) (pa_cons (pe_ix ix_list (pv 3) pe_int (fun _ _ => rfl)) (pa_cons (pv 2) pa_nil)))) (po_some pe_int) po_none)))), ?_⟩
  refine ⟨_, rfl, rd_c (rx_dt (j := 1) h1 rfl fun y hy => ?_)⟩
  obtain ⟨a, xs, rfl, ha, hs⟩ := DT.inv hy
  have hlen : xs.length = ts.length := by rw [hs.len, List.length_map]
  refine ⟨a, rfl, ⟨_, ha.sq⟩, fun D nD => ?_⟩
  refine lc_tup (K := K) (a := a) (xs := xs) (fun i H' => Same H H' ∧ ∃ ys, H' D = some (.lst ys) ∧ DTs K H' ys (((ts.take i).filter (named bs nm)).map eThing) ∧ ys.length ≤ i) ⟨same_upd nD, [], upd_same, .nil, Nat.le_refl _⟩ (fun i H' _ p => same_tup p.1 ha.sq) (fun i x H' hx p => ?_) (fun H' p => ?_)
  · obtain ⟨S, ys, hD, hys, hl⟩ := p
    have hil : i < ts.length := by rw [← hlen]; exact (List.getElem?_eq_some_iff.mp hx).1
    obtain ⟨d, hd, hx'⟩ := hs.get' hx
    rw [List.getElem?_map, List.getElem?_eq_getElem hil] at hd
    cases hd
    have hb := List.getElem?_eq_getElem (hi ts[i] (List.getElem_mem hil))
    have et : ts.take (i + 1) = ts.take i ++ [ts[i]] := List.take_succ_eq_append_getElem hil
    refine ⟨rfl, _, rfl, _, rfl, _, _, _, _, _, _, _, _, rfl, h1.same S, hx'.same S, hb, _, rfl, rfl, _, rfl, ?_⟩
    refine ite2 (fun e => ?_) (fun e => ?_)
    · have e := vstr_eq e
      have nb : named bs nm ts[i] = true := by unfold named; rw [hb]; exact decide_eq_true e
      refine ⟨_, rfl, ys, hD, small1000 (by omega), fun a o ho => ?_, _, upd_same, ?_, ?_⟩
      · rw [upd_ne (ne_of_none ho nD)]; exact S _ _ ho
      · rw [et, List.filter_append, List.map_append]
        refine (hys.tk (tk_lst hD)).append ?_
        rw [List.filter_cons_of_pos nb]
        exact .cons ((hx'.same S).tk (tk_lst hD)) .nil
      · rw [List.length_append]; exact Nat.add_le_add_right hl 1
    · have e := vstr_ne e
      have nb : ¬ named bs nm ts[i] = true := by unfold named; rw [hb]; exact fun z => e (of_decide_eq_true z)
      refine ⟨S, ys, hD, ?_, by omega⟩
      rw [et, List.filter_append, List.filter_cons_of_neg nb]
      show DTs K H' ys ((List.filter (named bs nm) (List.take i ts) ++ []).map eThing)
      rw [List.append_nil]
      exact hys
  · obtain ⟨S, ys, hD, hys, hl⟩ := p
    rw [hlen, List.take_length, ef] at hys
    cases hys with
    | cons hy0 hys =>
      have hin : th.i < bs.length := hi th (by
        have : th ∈ ts.filter (named bs nm) := by rw [ef]; exact List.mem_cons_self
        exact (List.mem_filter.mp this).1)
      have hb : bs[th.i]? = some bs[th.i] := List.getElem?_eq_getElem hin
      refine ⟨_, rfl, _, rfl, rd_c ⟨D, _, 0, _, rfl, rfl, SqL.of hD, atI_nat (j := 0) rfl, ?_⟩⟩
      refine ⟨_, rfl, _, _, _, bs, ts, la, lo, th, _, m, rfl, h1.same S, hy0, h3.same S, hb, ok, fun H2 v2 S2 z2 => ?_⟩
      obtain ⟨a2, xs2, rfl, ha2, hs2⟩ := DT.inv z2
      cases hs2 with
      | cons hn2 hs2 =>
        cases hs2 with
        | cons c1 hs2 =>
          cases hs2 with
          | cons c2 hs2 =>
            cases hs2
            exact ⟨1, rfl, a2, _, rfl, ha2.sq, fun h => absurd h.1 (show ¬ HT.sIx 3 0 (some 1) = 0 by decide), fun q hq => k _ _ ((S.trans S2).trans (same_upd hq)) (dt_new hq (.cons c1 (.cons c2 .nil)))⟩
end

/-! ### draws, the second way -/
section
variable {P : Program} {w : World} {K : PySem.W.Frag} {mg : Str → Option Value} {base : Heap}
theorem bt_small {x : Int} (h : x.natAbs < 2 ^ 100) : Bt 9000 x := Nat.lt_of_lt_of_le h (Nat.pow_le_pow_right (by decide) (by decide))
theorem bt13 : Bt 9000 13 := bt_small (by decide)
def sp_cell (K : PySem.W.Frag) : Sp := fun vs H Q _ => ∃ (s : Addr) (ns : List Int) (k : Nat), vs = [.ref s, .int (k : Int)] ∧ SqL K H s (ns.map V.int) ∧ k < 2 ^ 41 ∧ ∀ v, 0 ≤ v → Q (.int v) H
theorem ok__law_cell (T : Tx K mg w) : FnOk P w K mg base CX0 1 T.f__law_cell T.d__law_cell ["_law_script", "_law_k"] (sp_cell K) := by
  refine T.F__law_cell.ok sc__law_cell (fun vs H Q E h => ?_) (fun cdv A outer s H vs Q E hr h => ?_)
  · obtain ⟨a, b, c, rfl, _⟩ := h
    rfl
  · obtain ⟨s, ns, k, rfl, hs, hk, q⟩ := h
    refine ⟨_, (pss_cons (ps_if (pt_cmpR op_eq (pe_callB call_len_seq (by rfl) T.m_len (by decide +kernel) (pa_cons (pv 0) pa_nil)) pe_int (nomark _)) (pss_one (ps_ret (pe_op op_add (pe_op op_mulX pe_int (pv 1)) pe_int))) pss_nil)
      (pss_one (ps_ret (pe_callB call_abs (by rfl) T.m_abs (by decide +kernel) (pa_cons (pe_ix ix_list (pv 0) (pe_op op_modN (pv 1) (pe_callB call_len_seq (by rfl) T.m_len (by decide +kernel) (pa_cons (pv 0) pa_nil))) (fun _ _ => rfl)) pa_nil))))), ?_⟩
    refine ⟨.ref s, rfl, s, _, rfl, .inl hs, rd_c (rd_eqi ⟨_, rfl, ite2 (fun e => ?_) (fun e => ?_)⟩)⟩
    · exact ⟨.int (k : Int), rfl, 7, (k : Int), rfl, rfl, mulx_ok (a := 3) (b := 41) (by decide) (by omega) (by decide), _, 3, rfl, rfl, q _ (by omega)⟩
    · have e : ¬ (((ns.map V.int).length : Int) = 0) := fun z => e (decide_eq_true z)
      rw [List.length_map] at e
      have f := @fmod_pos (k : Int) (ns.length : Int) (by omega)
      have hj : ((k : Int).fmod (ns.length : Int)).toNat < ns.length := by omega
      refine ⟨.ref s, rfl, .int (k : Int), rfl, .ref s, rfl, s, _, rfl, .inl hs, (k : Int), ((ns.map V.int).length : Int), rfl, rfl, (by rw [List.length_map]; exact e), s, _, _, .int ns[((k : Int).fmod (ns.length : Int)).toNat], rfl, rfl, hs, ?_, _, rfl, q _ (by split <;> omega)⟩
      refine at_of (j := ((k : Int).fmod (ns.length : Int)).toNat) ?_ ?_
      · show (k : Int).fmod ((ns.map V.int).length : Int) = _
        rw [List.length_map]
        omega
      · rw [List.getElem?_map, List.getElem?_eq_getElem hj]
        rfl
def sp_mixed (K : PySem.W.Frag) : Sp := fun vs H Q _ => ∃ (s : Addr) (ns : List Int) (k : Nat) (m : Int), vs = [.ref s, .int (k : Int), .int m] ∧ SqL K H s (ns.map V.int) ∧ k < 2 ^ 31 ∧ 0 < m ∧ ∀ v, 0 ≤ v → v < m → Q (.int v) H
theorem ok__law_mixed (T : Tx K mg w) : FnOk P w K mg base CX0 2 T.f__law_mixed T.d__law_mixed ["_law_script", "_law_k", "_law_many_here"] (sp_mixed K) := by
  have G__law_cell := ok__law_cell (P := P) (w := w) (base := base) T
  refine T.F__law_mixed.ok sc__law_mixed (fun vs H Q E h => ?_) (fun cdv A outer s H vs Q E hr h => ?_)
  · obtain ⟨a, b, c, d, rfl, _⟩ := h
    rfl
  · obtain ⟨s, ns, k, m, rfl, hs, hk, hm, q⟩ := h
    refine ⟨_, (pss_cons (ps_set (i := 3) sc__law_mixed.nd rfl (Or.inl rfl) (pe_call G__law_cell (hr.mono (by first | decide | omega)) (by rfl) T.g__law_cell T.F__law_cell.kp T.b__law_cell .nil pass0 (pa_cons (pv 0) (pa_cons (pv 1) pa_nil))))
      (pss_cons (ps_set (i := 4) sc__law_mixed.nd rfl (Or.inl rfl) (pe_op op_add (pe_op op_modN (pv 3) pe_int) (pe_op op_modN (pe_op op_fdX (pv 3) pe_int) pe_int)))
      (pss_cons (ps_set (i := 5) sc__law_mixed.nd rfl (Or.inl rfl) (pe_op op_modN (pe_op op_pow (pe_op op_add (pe_op op_mulX (pe_op op_add (pv 4) pe_int) (pe_op op_add (pv 1) pe_int)) (pe_op op_mulX pe_int (pv 1))) pe_int) pe_int))
      (pss_one (ps_ret (pe_op op_modN (pe_op op_fdX (pe_op op_modN (pe_op op_pow (pe_op op_add (pv 5) (pe_op op_mulX pe_int (pv 1))) pe_int) pe_int) pe_int) (pv 2))))))), ?_⟩
    rw [show L2.start nm__law_mixed [.ref s, .int (k : Int), .int m] = [some (.ref s), some (.int (k : Int)), some (.int m), none, none, none] from rfl]
    refine ⟨.ref s, rfl, .int (k : Int), rfl, s, ns, k, rfl, hs, by omega, fun v hv => ?_⟩
    dsimp only [gName, List.set_cons_succ, List.set_cons_zero]
    have f := @fmod_pos v 2147483629 (by decide)
    have f2 := @fmod_pos (v.fdiv 2147483629) 1000003 (by decide)
    refine ⟨.int v, rfl, v, 2147483629, rfl, rfl, (show (2147483629 : Int) ≠ 0 by decide), .int v, rfl, v, 2147483629, rfl, rfl, ⟨by decide, bt_small (by decide)⟩, _, 1000003, rfl, rfl, (show (1000003 : Int) ≠ 0 by decide), _, _, rfl, rfl, ?_⟩
    dsimp only [gName, List.set_cons_succ, List.set_cons_zero]
    generalize v.fmod 2147483629 = x at f ⊢
    generalize (v.fdiv 2147483629).fmod 1000003 = y at f2 ⊢
    refine ⟨_, rfl, _, 5, rfl, rfl, .int (k : Int), rfl, (k : Int), 2, rfl, rfl, _, _, rfl, rfl, mulx_ok (a := 32) (b := 32) (by omega) (by omega) (by decide), .int (k : Int), rfl, 7919, (k : Int), rfl, rfl, mulx_ok (a := 13) (b := 31) (by decide) (by omega) (by decide), _, _, rfl, rfl, ?_⟩
    have hu : ((x + y + 5) * ((k : Int) + 2) + 7919 * (k : Int)).natAbs < 2 ^ 64 := by
      have h1 : (x + y + 5) * ((k : Int) + 2) ≤ 2148483640 * ((k : Int) + 2) := Int.mul_le_mul_of_nonneg_right (by omega) (by omega)
      have h0 : 0 ≤ (x + y + 5) * ((k : Int) + 2) := Int.mul_nonneg (by omega) (by omega)
      omega
    refine ⟨_, 5, rfl, rfl, ⟨by decide, by decide, hu⟩, _, 2305843009213693951, rfl, rfl, (show (2305843009213693951 : Int) ≠ 0 by decide), ?_⟩
    dsimp only [gName, List.set_cons_succ, List.set_cons_zero]
    have f3 := @fmod_pos (((x + y + 5) * ((k : Int) + 2) + 7919 * (k : Int)) ^ (5 : Int).toNat) 2305843009213693951 (by decide)
    generalize (((x + y + 5) * ((k : Int) + 2) + 7919 * (k : Int)) ^ (5 : Int).toNat).fmod 2305843009213693951 = z at f3 ⊢
    refine ⟨_, rfl, .int (k : Int), rfl, 31, (k : Int), rfl, rfl, mulx_ok (a := 5) (b := 31) (by decide) (by omega) (by decide), _, _, rfl, rfl, _, 3, rfl, rfl, ⟨by decide, by decide, by omega⟩, _, 2305843009213693921, rfl, rfl, (show (2305843009213693921 : Int) ≠ 0 by decide), _, 13, rfl, rfl, ⟨by decide, bt13⟩, .int m, rfl, _, m, rfl, rfl, (show m ≠ 0 by omega), ?_⟩
    have g := @fmod_pos (((((z + 31 * (k : Int)) ^ (3 : Int).toNat).fmod 2305843009213693921).fdiv 13)) m hm
    exact q _ g.1 g.2
def sp_take (K : PySem.W.Frag) : Sp := fun vs H Q _ => ∃ (d l s : Addr) (ns : List Int) (c : Nat) (m : Int), vs = [.ref d, .int m] ∧ Dk K H d l s ns c ∧ c < 2 ^ 30 ∧ 0 < m ∧ m < 2 ^ 60 ∧
  ∀ H' v, Keep d l H H' → Dk K H' d l s ns (c + 1) → 0 ≤ v → v < m → Q (.int v) H'
theorem ok__law_take (T : Tx K mg w) : FnOk P w K mg base CX0 3 T.f__law_take T.d__law_take ["_law_deck_here", "_law_many_here"] (sp_take K) := by
  have G__law_mixed := ok__law_mixed (P := P) (w := w) (base := base) T
  refine T.F__law_take.ok sc__law_take (fun vs H Q E h => ?_) (fun cdv A outer s H vs Q E hr h => ?_)
  · obtain ⟨_, _, _, _, _, _, rfl, _⟩ := h
    rfl
  · obtain ⟨d, l, s, ns, c, m, rfl, hD, hc, hm, hm2, q⟩ := h
    refine ⟨_, (pss_cons (ps_while PassesOwn.never (pt_cmpR op_lt (pe_ix ix_list (pv 0) pe_int (fun _ _ => rfl)) (pe_callB call_len_seq (by rfl) T.m_len (by decide +kernel) (pa_cons (pe_ix ix_list (pv 0) pe_int (fun _ _ => rfl)) pa_nil)) (nomark _)) (pss_cons (ps_set (i := 2) sc__law_take.nd rfl (Or.inl rfl) (pe_ix ix_list (pe_ix ix_list (pv 0) pe_int (fun _ _ => rfl)) (pe_ix ix_list (pv 0) pe_int (fun _ _ => rfl)) (fun _ _ => rfl)))
      (pss_cons (ps_if (pt_cmpR op_gt (pv 2) pe_int (nomark _)) (pss_cons (ps_asg (pe_op op_fdX (pv 2) (pv 1)) (pg_sub (pe_ix ix_list (pv 0) pe_int (fun _ _ => rfl)) (pe_ix ix_list (pv 0) pe_int (fun _ _ => rfl)) set_list))
      (pss_one (ps_ret (pe_op op_modN (pv 2) (pv 1))))) pss_nil)
      (pss_one (ps_asg (pe_op op_add (pe_ix ix_list (pv 0) pe_int (fun _ _ => rfl)) pe_int) (pg_sub (pv 0) pe_int set_list))))))
      (pss_cons (ps_asg (pe_op op_add (pe_ix ix_list (pv 0) pe_int (fun _ _ => rfl)) pe_int) (pg_sub (pv 0) pe_int set_list))
      (pss_one (ps_ret (pe_call G__law_mixed (hr.mono (by first | decide | omega)) (by rfl) T.g__law_mixed T.F__law_mixed.kp T.b__law_mixed .nil pass0 (pa_cons (pe_ix ix_list (pv 0) pe_int (fun _ _ => rfl)) (pa_cons (pe_ix ix_list (pv 0) pe_int (fun _ _ => rfl)) (pa_cons (pv 1) pa_nil)))))))), ?_⟩
    have hdl := hD.ne
    obtain ⟨xs, i, k, hd, hl, hk, hs⟩ := hD
    refine ⟨fun n σ H1 => ∃ (xs : List Int) (i k : Nat) (y : Option V), σ = [some (.ref d), some (.int m), y] ∧ Keep d l H H1 ∧ H1 d = some (.lst [.ref s, .ref l, .int (i : Int), .int (k : Int)]) ∧ H1 l = some (.lst (xs.map V.int)) ∧ k ≤ c ∧ Sct K H1 d l s (ns.map V.int) ∧ n = xs.length - i,
      ⟨_, xs, i, k, none, rfl, Keep.refl, hd, hl, hk, hs, rfl⟩, fun n σ H1 hW => ?_⟩
    obtain ⟨xs, i, k, y, rfl, kp, hd, hl, hk, hs, rfl⟩ := hW
    refine ⟨.ref d, rfl, d, _, 2, .int (i : Int), rfl, rfl, SqL.of hd, rfl, .ref d, rfl, d, _, 1, .ref l, rfl, rfl, SqL.of hd, rfl, l, _, rfl, .inl (SqL.of hl), (i : Int), ((xs.map V.int).length : Int), rfl, rfl, _, rfl, ite2 (fun e => ?_) (fun e => ?_)⟩
    · have hi := of_decide_eq_true e
      rw [List.length_map] at hi
      have hi : i < xs.length := by omega
      refine ⟨fun σ' H' => ∃ m', m' < xs.length - i ∧ ∃ (xs : List Int) (i k : Nat) (y : Option V), σ' = [some (.ref d), some (.int m), y] ∧ Keep d l H H' ∧ H' d = some (.lst [.ref s, .ref l, .int (i : Int), .int (k : Int)]) ∧ H' l = some (.lst (xs.map V.int)) ∧ k ≤ c ∧ Sct K H' d l s (ns.map V.int) ∧ m' = xs.length - i,
        fun _ _ h => h, ?_⟩
      have ga : (xs.map V.int)[i]? = some (.int xs[i]) := by
        rw [List.getElem?_map, List.getElem?_eq_getElem hi]
        rfl
      refine ⟨.ref d, rfl, d, _, 1, .ref l, rfl, rfl, SqL.of hd, rfl, .ref d, rfl, d, _, 2, .int (i : Int), rfl, rfl, SqL.of hd, rfl, l, _, (i : Int), .int xs[i], rfl, rfl, SqL.of hl, atI_nat ga, ?_⟩
      refine ⟨.int xs[i], rfl, xs[i], 0, rfl, rfl, _, rfl, ite2 (fun e => ?_) (fun e => ?_)⟩
      · have f := @fmod_pos xs[i] m hm
        have ix : ixN (xs.map V.int).length (i : Int) = some i := by
          unfold ixN
          rw [List.length_map, if_pos (by omega), if_pos (by omega)]
          rfl
        refine ⟨.int xs[i], rfl, .int m, rfl, xs[i], m, rfl, rfl, ⟨(show m ≠ 0 by omega), bt_small (by omega)⟩, .ref d, rfl, d, _, 1, .ref l, rfl, rfl, SqL.of hd, rfl, .ref d, rfl, d, _, 2, .int (i : Int), rfl, rfl, SqL.of hd, rfl, l, _, (i : Int), i, rfl, rfl, hl, ix, ?_⟩
        refine ⟨.int xs[i], rfl, .int m, rfl, xs[i], m, rfl, rfl, (show m ≠ 0 by omega), q _ _ (kp.trans keep_l) ?_ f.1 f.2⟩
        refine ⟨xs.set i (xs[i].fdiv m), i, k, ?_, ?_, by omega, hs.keep keep_l⟩
        · rw [upd_ne hdl]
          exact hd
        · rw [upd_same, List.map_set]
      · refine ⟨.ref d, rfl, d, _, 2, .int (i : Int), rfl, rfl, SqL.of hd, rfl, (i : Int), 1, rfl, rfl, .ref d, rfl, d, _, 2, 2, rfl, rfl, hd, rfl, ?_⟩
        refine ⟨_, ?_, xs, i + 1, k, some (.int xs[i]), rfl, kp.trans keep_d, upd_same, ?_, hk, hs.keep keep_d, rfl⟩
        · omega
        · rw [upd_ne hdl.symm]
          exact hl
    · refine ⟨.ref d, rfl, d, _, 3, .int (k : Int), rfl, rfl, SqL.of hd, rfl, (k : Int), 1, rfl, rfl, .ref d, rfl, d, _, 3, 3, rfl, rfl, hd, rfl, ?_⟩
      have hd' : upd H1 d (.lst [.ref s, .ref l, .int (i : Int), .int ((k + 1 : Nat) : Int)]) d = some (.lst [.ref s, .ref l, .int (i : Int), .int ((k + 1 : Nat) : Int)]) := upd_same
      have hs' : Sct K (upd H1 d (.lst [.ref s, .ref l, .int (i : Int), .int ((k + 1 : Nat) : Int)])) d l s (ns.map V.int) := hs.keep keep_d
      refine ⟨.ref d, rfl, d, _, 0, .ref s, rfl, rfl, SqL.of hd', rfl, .ref d, rfl, d, _, 3, .int ((k + 1 : Nat) : Int), rfl, rfl, SqL.of hd', rfl, .int m, rfl, s, ns, k + 1, m, rfl, hs'.sq, by omega, hm, fun v v0 v1 => ?_⟩
      refine q _ v (kp.trans keep_d) ⟨xs, i, k + 1, hd', ?_, by omega, hs'⟩ v0 v1
      rw [upd_ne hdl.symm]
      exact hl
def sp_deck (K : PySem.W.Frag) : Sp := fun vs H Q _ => ∃ (s : Addr) (ns : List Int), vs = [.ref s] ∧ SqL K H s (ns.map V.int) ∧ ns.length ≤ 63 ∧
  ∀ H' d l, Same H H' → Dk K H' d l s ns 0 → H d = none → H l = none → Q (.ref d) H'
theorem ok__law_deck (T : Tx K mg w) : FnOk P w K mg base CX0 1 T.f__law_deck T.d__law_deck ["_law_script"] (sp_deck K) := by
  refine T.F__law_deck.ok sc__law_deck (fun vs H Q E h => ?_) (fun cdv A outer s H vs Q E hr h => ?_)
  · obtain ⟨_, _, rfl, _⟩ := h
    rfl
  · obtain ⟨s, ns, rfl, hs, hn, q⟩ := h
    refine ⟨_, (pss_one (ps_ret (pe_lst (pa_cons (pv 0) (pa_cons (pe_lc (own := [("_law_one", 1)]) (g := gName 1) (by rfl) sc__law_deck.nd (pi_list (pv 0)) (blkOk_by (own := [("_law_one", 1)]) (N := nm__law_deck) (sc := defScope s__law_deck) (by decide +kernel)) (fun _ _ _ _ _ => (pg_name (i := 1) sc__law_deck.nd rfl (Or.inl rfl))) (fun _ _ _ _ _ => (pts_one (pt_cmpR op_ge (pe_callB call_abs (by rfl) T.m_abs (by decide +kernel) (pa_cons (pv 1) pa_nil)) (pe_op op_pow pe_int pe_int) (nomark _)))) (fun _ _ _ _ _ => (pe_callB call_abs (by rfl) T.m_abs (by decide +kernel) (pa_cons (pv 1) pa_nil)))) (pa_cons pe_int (pa_cons pe_int pa_nil))))))), ?_⟩
    refine ⟨.ref s, rfl, .ref s, rfl, s, rfl, ⟨_, hs⟩, fun D nD => ?_⟩
    refine lc_list (K := K) (a := s) (xs := ns.map V.int) (fun i H' => Same H H' ∧ ∃ xs : List Int, H' D = some (.lst (xs.map V.int)) ∧ xs.length ≤ i) ⟨same_upd nD, [], upd_same, Nat.le_refl _⟩ (fun i H' _ h => h.1.seq hs) (fun i x H' hx h => ?_) (fun H' h => ?_)
    · obtain ⟨hS, xs, hx', hxl⟩ := h
      have hil : i < (ns.map V.int).length := (List.getElem?_eq_some_iff.mp hx).1
      rw [List.length_map] at hil
      obtain ⟨z, rfl⟩ : ∃ z, x = .int z := by
        rw [List.getElem?_map, List.getElem?_eq_getElem hil] at hx
        exact ⟨_, (Option.some.inj hx).symm⟩
      refine ⟨rfl, .int z, rfl, z, rfl, 10, 18, rfl, rfl, ⟨by decide, by decide, by decide⟩, _, _, rfl, rfl, _, rfl, ite2 (fun e => ?_) (fun e => ?_)⟩
      · refine ⟨.int z, rfl, z, rfl, _, hx', small1000 (by rw [List.length_map]; omega), fun a o e => ?_, xs ++ [if z < 0 then -z else z], ?_, ?_⟩
        · rw [upd_ne (ne_of_none e nD)]
          exact hS a o e
        · rw [upd_same, List.map_append]
          rfl
        · rw [List.length_append]
          exact Nat.add_le_add_right hxl 1
      · exact ⟨hS, xs, hx', by omega⟩
    · obtain ⟨hS, xs, hx', hxl⟩ := h
      refine ⟨sz_n (by decide : 4 ≤ 1000), fun d nd => ?_⟩
      have nd0 : H d = none := hS.free nd
      refine q _ d D (hS.trans (same_upd nd)) ⟨xs, 0, 0, upd_same, ?_, Nat.le_refl _, sct_of hs (hS.trans (same_upd nd)) nd0 nD⟩ nd0 nD
      rw [upd_ne (ne_of_none hx' nd)]
      exact hx'
end

theorem Dk.apart {K : PySem.W.Frag} {H : Hp} {d l s D : Addr} {ns : List Int} {c : Nat} (h : Dk K H d l s ns c) (nD : H D = none) : D ≠ d ∧ D ≠ l ∧ ((∀ H', SqL K H' s (ns.map V.int)) ∨ s ≠ D) := by
  obtain ⟨xs, i, k, h1, h2, _, h4⟩ := h
  refine ⟨(ne_of_none h1 nD).symm, (ne_of_none h2 nD).symm, ?_⟩
  rcases h4 with h4 | ⟨h4, _, _⟩
  · exact .inl h4
  · rcases h4 with (h | ⟨o, h⟩) | h
    · exact .inr (ne_of_none h nD)
    · exact .inr (ne_of_none h nD)
    · exact .inl fun _ => .inr h
theorem Dk.beside {K : PySem.W.Frag} {H : Hp} {d l s D : Addr} {o : HO} {ns : List Int} {c : Nat} (h : Dk K H d l s ns c) (a : D ≠ d ∧ D ≠ l ∧ ((∀ H', SqL K H' s (ns.map V.int)) ∨ s ≠ D)) : Dk K (upd H D o) d l s ns c := by
  obtain ⟨xs, i, k, h1, h2, h3, h4⟩ := h
  obtain ⟨a1, a2, a3⟩ := a
  refine ⟨xs, i, k, ?_, ?_, h3, ?_⟩
  · rw [upd_ne a1.symm]
    exact h1
  · rw [upd_ne a2.symm]
    exact h2
  · rcases a3 with a3 | a3
    · exact .inl a3
    · rcases h4 with h4 | ⟨(h | ⟨z, h⟩) | h, b1, b2⟩
      · exact .inl h4
      · refine .inr ⟨.inl (.inl ?_), b1, b2⟩
        rw [upd_ne a3]
        exact h
      · refine .inr ⟨.inl (.inr ⟨z, ?_⟩), b1, b2⟩
        rw [upd_ne a3]
        exact h
      · exact .inl fun _ => .inr h

/-! ### the second family's fractions and points -/
section
variable {P : Program} {w : World} {K : PySem.W.Frag} {mg : Str → Option Value} {base : Heap}
def sp_gcd : Sp := fun vs H Q _ => ∃ a b : Int, vs = [.int a, .int b] ∧ Q (.int (Int.gcd a b : Int)) H
theorem ok__law_gcd (T : Tx K mg w) : FnOk P w K mg base CX0 1 T.f__law_gcd T.d__law_gcd ["_law_one", "_law_other"] sp_gcd := by
  refine T.F__law_gcd.ok sc__law_gcd (fun vs H Q E h => ?_) (fun cdv A outer s H vs Q E hr h => ?_)
  · obtain ⟨a, b, rfl, _⟩ := h
    rfl
  · obtain ⟨a, b, rfl, q⟩ := h
    refine ⟨_, (pss_cons (ps_while PassesOwn.never (pt_cmpR op_ne (pv 1) pe_int (nomark _)) (pss_cons (ps_set (i := 2) sc__law_gcd.nd rfl (Or.inl rfl) (pe_op op_modN (pv 0) (pv 1)))
      (pss_cons (ps_set (i := 0) sc__law_gcd.nd rfl (Or.inl rfl) (pv 1))
      (pss_one (ps_set (i := 1) sc__law_gcd.nd rfl (Or.inl rfl) (pv 2))))))
      (pss_one (ps_ret (pe_callB call_abs (by rfl) T.m_abs (by decide +kernel) (pa_cons (pv 0) pa_nil))))), ?_⟩
    refine ⟨fun m σ H' => H' = H ∧ ∃ (x y : Int) (r : Option V), σ = [some (.int x), some (.int y), r] ∧ m = y.natAbs ∧ Int.gcd x y = Int.gcd a b, ⟨_, rfl, a, b, none, rfl, rfl, rfl⟩, fun m σ H2 hW => ?_⟩
    obtain ⟨rfl, x, y, r, rfl, rfl, inv⟩ := hW
    refine ⟨.int y, rfl, rfl, _, rfl, ?_⟩
    by_cases hy : y = 0
    · subst hy
      refine ite_no (by simp) ?_
      refine ⟨_, rfl, _, rfl, ?_⟩
      rw [← inv, Int.gcd_zero_right] at q
      rw [show (if x < 0 then -x else x) = (x.natAbs : Int) by split <;> omega]
      exact q
    · refine ite_yes (by simp [hy]) ?_
      refine ⟨fun σ' H' => ∃ m', m' < y.natAbs ∧ H' = H2 ∧ ∃ (x y : Int) (r : Option V), σ' = [some (.int x), some (.int y), r] ∧ m' = y.natAbs ∧ Int.gcd x y = Int.gcd a b, fun _ _ h => h, ?_⟩
      have lt : (x.fmod y).natAbs < y.natAbs := by
        rcases Int.lt_or_lt_of_ne hy with h | h
        · have := @fmod_neg x y h; omega
        · have := @fmod_pos x y h; omega
      exact ⟨.int x, rfl, .int y, rfl, x, y, rfl, rfl, hy, .int y, rfl, _, rfl, _, lt, rfl, y, x.fmod y, _, rfl, rfl, by rw [gcd_step]; exact inv⟩
theorem ok__law_frac (T : Tx K mg w) : FnOk P w K mg base CX0 2 T.f__law_frac T.d__law_frac ["_law_above", "_law_below"] sp_frac := by
  have G__law_gcd := ok__law_gcd (P := P) (w := w) (base := base) T
  refine T.F__law_frac.ok sc__law_frac (fun vs H Q E h => ?_) (fun cdv A outer s H vs Q E hr h => ?_)
  · obtain ⟨a, b, rfl, _⟩ := h
    rfl
  · obtain ⟨a, b, rfl, hb, hB, q⟩ := h
    refine ⟨_, (pss_cons (ps_set (i := 2) sc__law_frac.nd rfl (Or.inl rfl) (pe_call G__law_gcd (hr.mono (by first | decide | omega)) (by rfl) T.g__law_gcd T.F__law_gcd.kp T.b__law_gcd .nil pass0 (pa_cons (pv 0) (pa_cons (pv 1) pa_nil))))
      (pss_cons (ps_if (pt_cmpR op_lt (pv 1) pe_int (nomark _)) (pss_one (ps_set (i := 2) sc__law_frac.nd rfl (Or.inl rfl) (pe_un un_neg (pv 2)))) pss_nil)
      (pss_one (ps_ret (pe_tup (pa_cons (pe_op op_fdX (pv 0) (pv 2)) (pa_cons (pe_op op_fdX (pv 1) (pv 2)) pa_nil))))))), ?_⟩
    have sn := sg_ne (a := a) hb
    have bx : Bt 9000 (sg a b) := hB.le sn.2
    have fin : ∀ x : Int, x = sg a b → tRet (tTup (tCons (tOp (rI (fun _ j => j ≠ 0 ∧ Bt 9000 j) fun i j => V.int (i.fdiv j)) (tVar 0) (tVar 2)) (tCons (tOp (rI (fun _ j => j ≠ 0 ∧ Bt 9000 j) fun i j => V.int (i.fdiv j)) (tVar 1) (tVar 2)) tNil))) { nx := fun _ H' => Q .non H', rt := Q } [some (.int a), some (.int b), some (.int x)] H := fun x ex => by
      subst ex
      exact ⟨.int a, rfl, .int (sg a b), rfl, a, sg a b, rfl, rfl, ⟨sn.1, bx⟩, .int b, rfl, .int (sg a b), rfl, b, sg a b, rfl, rfl, ⟨sn.1, bx⟩, sz_n (by decide : 2 ≤ 1000), fun p hp => q _ _ (same_upd hp) (frv_new (sg_num hb) (sg_den hb))⟩
    refine ⟨.int a, rfl, .int b, rfl, a, b, rfl, ?_⟩
    refine ⟨.int b, rfl, b, 0, rfl, rfl, _, rfl, ite2 (fun e => ?_) (fun e => ?_)⟩
    · have e := of_decide_eq_true e
      refine ⟨_, rfl, _, rfl, fin _ ?_⟩
      unfold sg
      rw [if_pos e]
    · have e : ¬ b < 0 := fun z => e (decide_eq_true z)
      refine fin _ ?_
      unfold sg
      rw [if_neg e]
theorem okD__law_plus (T : Tx K mg w) : FnOk P w K mg base CX0 3 T.f__law_plus T.d__law_plus ["_law_one", "_law_other"] (spD_two K (fun q r => q + r) (fun _ => True)) := by
  have G__law_frac := ok__law_frac (P := P) (w := w) (base := base) T
  refine T.F__law_plus.ok sc__law_plus (fun vs H Q E h => two_lenD h) (fun cdv A outer s H vs Q E hr h => ?_)
  obtain ⟨_, _, q, r, m, n, rfl, f1, f2, ⟨bq, bq'⟩, ⟨br, br'⟩, hmn, ok, k⟩ := h
  obtain ⟨p1, rfl, h1⟩ := fr_inv f1
  obtain ⟨p2, rfl, h2⟩ := fr_inv f2
  refine ⟨_, (pss_one (ps_ret (pe_call G__law_frac (hr.mono (by first | decide | omega)) (by rfl) T.g__law_frac T.F__law_frac.kp T.b__law_frac .nil pass0 (pa_cons (pe_op op_add (pe_op op_mulX (pe_ix ix_tup (pv 0) pe_int (fun _ _ => rfl)) (pe_ix ix_tup (pv 1) pe_int (fun _ _ => rfl))) (pe_op op_mulX (pe_ix ix_tup (pv 1) pe_int (fun _ _ => rfl)) (pe_ix ix_tup (pv 0) pe_int (fun _ _ => rfl)))) (pa_cons (pe_op op_mulX (pe_ix ix_tup (pv 0) pe_int (fun _ _ => rfl)) (pe_ix ix_tup (pv 1) pe_int (fun _ _ => rfl))) pa_nil))))), ?_⟩
  refine rd_ixS rfl h1 rfl (rd_ixS rfl h2 rfl (rd_mul bq br' (by omega) (rd_ixS rfl h2 rfl (rd_ixS rfl h1 rfl (rd_mul br bq' (by omega) (rd_i0 (rd_ixS rfl h1 rfl (rd_ixS rfl h2 rfl (rd_mul bq' br' (by omega) ?_)))))))))
  exact ⟨_, _, rfl, Int.mul_ne_zero (den_ne q) (den_ne r), (bq'.mul br').mono (by omega), fun H' v s f => k H' v s (fr_of (by rw [rat_sum] at f; exact f))⟩
theorem okD__law_times (T : Tx K mg w) : FnOk P w K mg base CX0 3 T.f__law_times T.d__law_times ["_law_one", "_law_other"] (spD_two K (fun q r => q * r) (fun _ => True)) := by
  have G__law_frac := ok__law_frac (P := P) (w := w) (base := base) T
  refine T.F__law_times.ok sc__law_times (fun vs H Q E h => two_lenD h) (fun cdv A outer s H vs Q E hr h => ?_)
  obtain ⟨_, _, q, r, m, n, rfl, f1, f2, ⟨bq, bq'⟩, ⟨br, br'⟩, hmn, ok, k⟩ := h
  obtain ⟨p1, rfl, h1⟩ := fr_inv f1
  obtain ⟨p2, rfl, h2⟩ := fr_inv f2
  refine ⟨_, (pss_one (ps_ret (pe_call G__law_frac (hr.mono (by first | decide | omega)) (by rfl) T.g__law_frac T.F__law_frac.kp T.b__law_frac .nil pass0 (pa_cons (pe_op op_mulX (pe_ix ix_tup (pv 0) pe_int (fun _ _ => rfl)) (pe_ix ix_tup (pv 1) pe_int (fun _ _ => rfl))) (pa_cons (pe_op op_mulX (pe_ix ix_tup (pv 0) pe_int (fun _ _ => rfl)) (pe_ix ix_tup (pv 1) pe_int (fun _ _ => rfl))) pa_nil))))), ?_⟩
  refine rd_ixS rfl h1 rfl (rd_ixS rfl h2 rfl (rd_mul bq br (by omega) (rd_ixS rfl h1 rfl (rd_ixS rfl h2 rfl (rd_mul bq' br' (by omega) ?_)))))
  exact ⟨_, _, rfl, Int.mul_ne_zero (den_ne q) (den_ne r), (bq'.mul br').mono (by omega), fun H' v s f => k H' v s (fr_of (by rw [rat_prod] at f; exact f))⟩
def spD_opp (K : PySem.W.Frag) : Sp := fun vs H Q _ => ∃ v q, vs = [v] ∧ DT K H v (eF q) ∧ ∀ H' v, Same H H' → DT K H' v (eF (-q)) → Q v H'
theorem okD__law_other_way (T : Tx K mg w) : FnOk P w K mg base CX0 1 T.f__law_other_way T.d__law_other_way ["_law_one"] (spD_opp K) := by
  refine T.F__law_other_way.ok sc__law_other_way (fun vs H Q E h => ?_) (fun cdv A outer s H vs Q E hr h => ?_)
  · obtain ⟨_, _, rfl, _⟩ := h
    rfl
  obtain ⟨_, q, rfl, f, k⟩ := h
  obtain ⟨p, rfl, h⟩ := fr_inv f
  refine ⟨_, (pss_one (ps_ret (pe_tup (pa_cons (pe_un un_neg (pe_ix ix_tup (pv 0) pe_int (fun _ _ => rfl))) (pa_cons (pe_ix ix_tup (pv 0) pe_int (fun _ _ => rfl)) pa_nil))))), ?_⟩
  refine ⟨_, rfl, p, _, 0, _, rfl, rfl, h, rfl, _, rfl, _, rfl, p, _, 1, _, rfl, rfl, h, rfl, sz_n (by decide : 2 ≤ 1000), fun r hr' => k _ _ (same_upd hr') ?_⟩
  exact dt2 hr' (.int _) (.int _)
theorem e3 {f : Nat → PyData} (p : PyData) {i : Nat} (h : ([f 0, f 1, f 2] : List PyData)[i]? = some p) : i < 3 ∧ p = f i := by
  match i, h with
  | 0, h => exact ⟨by decide, (Option.some.inj h).symm⟩
  | 1, h => exact ⟨by decide, (Option.some.inj h).symm⟩
  | 2, h => exact ⟨by decide, (Option.some.inj h).symm⟩
def P3.at (p : P3) : Nat → Rat
  | 0 => p.x
  | 1 => p.y
  | _ => p.z
theorem eP_at (p : P3) : eP p = .tuple [eF (p.at 0), eF (p.at 1), eF (p.at 2)] := rfl
theorem P3.B.at {n : Nat} {p : P3} (h : p.B n) : ∀ i, Rb n (p.at i)
  | 0 => h.1
  | 1 => h.2.1
  | _ + 2 => h.2.2
theorem at_get {p : P3} {i : Nat} (h : i < 3) : ([eF (p.at 0), eF (p.at 1), eF (p.at 2)] : List PyData)[i]? = some (eF (p.at i)) := by
  match i, h with
  | 0, _ => rfl
  | 1, _ => rfl
  | 2, _ => rfl
theorem okD__law_added (T : Tx K mg w) : FnOk P w K mg base CX0 4 T.f__law_added T.d__law_added ["_law_one", "_law_other"] (spD_ptpt K P3.add) := by
  have G__law_plus := okD__law_plus (P := P) (w := w) (base := base) T
  refine T.F__law_added.ok sc__law_added (fun vs H Q E h => ?_) (fun cdv A outer s H vs Q E hr h => ?_)
  · obtain ⟨_, _, _, _, rfl, _⟩ := h
    rfl
  obtain ⟨v1, v2, p, q, rfl, h1, h2, b1, b2, k⟩ := h
  refine ⟨_, (pss_one (ps_ret (pe_callTy call_tuple_of (by rfl) T.m_tuple (by decide +kernel) (pa_cons (pe_lc (own := [("_law_k", 2)]) (g := gName 2) (by rfl) sc__law_added.nd (pi_range1 (by rfl) T.m_range (pa_cons pe_int pa_nil)) (blkOk_by (own := [("_law_k", 2)]) (N := nm__law_added) (sc := defScope s__law_added) (by decide +kernel)) (fun _ _ _ _ _ => (pg_name (i := 2) sc__law_added.nd rfl (Or.inl rfl))) (fun _ _ _ _ _ => pts_nil) (fun _ _ _ _ _ => (pe_call G__law_plus (hr.mono (by first | decide | omega)) (by rfl) T.g__law_plus T.F__law_plus.kp T.b__law_plus .nil pass0 (pa_cons (pe_ix (ix_tupC (K := K) rfl) (pv 0) (pv 2) (fun _ _ => rfl)) (pa_cons (pe_ix (ix_tupC (K := K) rfl) (pv 1) (pv 2) (fun _ _ => rfl)) pa_nil))))) pa_nil)))), ?_⟩
  refine ⟨3, rfl, by decide, by decide, fun D nD => ?_⟩
  refine lc_mapR (K := K) (n := 3) [eF (p.at 0 + q.at 0), eF (p.at 1 + q.at 1), eF (p.at 2 + q.at 2)] nD rfl (by decide) (fun i H2 d hi hd S R r => ?_) (fun H2 ys S hD hys => ?_)
  · obtain ⟨_, rfl⟩ := e3 (f := fun i => eF (p.at i + q.at i)) d hd
    refine ⟨rfl, _, rfl, _, rfl, ?_⟩
    rw [Int.zero_add]
    refine rx_dt (h1.same S) (at_get hi) fun x hx => ?_
    refine ⟨_, rfl, _, rfl, rx_dt (h2.same S) (at_get hi) fun y hy => ?_⟩
    exact ⟨_, _, _, _, 4000, 4000, rfl, hx, hy, b1.at i, b2.at i, by decide, trivial, fun H3 y S3 hy => r y H3 S3 hy⟩
  · exact ⟨D, ys, rfl, .inl ⟨SqL.of hD, fun l hl => k _ _ (S.trans (same_upd hl)) (dt_new hl hys)⟩⟩
theorem rb_neg {n : Nat} {q : Rat} (h : Rb n q) : Rb n (-q) := ⟨h.1.neg, h.2⟩
theorem okD__law_away (T : Tx K mg w) : FnOk P w K mg base CX0 4 T.f__law_away T.d__law_away ["_law_one", "_law_other"] (spD_ptpt K P3.sub) := by
  have G__law_other_way := okD__law_other_way (P := P) (w := w) (base := base) T
  have G__law_plus := okD__law_plus (P := P) (w := w) (base := base) T
  refine T.F__law_away.ok sc__law_away (fun vs H Q E h => ?_) (fun cdv A outer s H vs Q E hr h => ?_)
  · obtain ⟨_, _, _, _, rfl, _⟩ := h
    rfl
  obtain ⟨v1, v2, p, q, rfl, h1, h2, b1, b2, k⟩ := h
  refine ⟨_, (pss_one (ps_ret (pe_callTy call_tuple_of (by rfl) T.m_tuple (by decide +kernel) (pa_cons (pe_lc (own := [("_law_k", 2)]) (g := gName 2) (by rfl) sc__law_away.nd (pi_range1 (by rfl) T.m_range (pa_cons pe_int pa_nil)) (blkOk_by (own := [("_law_k", 2)]) (N := nm__law_away) (sc := defScope s__law_away) (by decide +kernel)) (fun _ _ _ _ _ => (pg_name (i := 2) sc__law_away.nd rfl (Or.inl rfl))) (fun _ _ _ _ _ => pts_nil) (fun _ _ _ _ _ => (pe_call G__law_plus (hr.mono (by first | decide | omega)) (by rfl) T.g__law_plus T.F__law_plus.kp T.b__law_plus .nil pass0 (pa_cons (pe_ix (ix_tupC (K := K) rfl) (pv 0) (pv 2) (fun _ _ => rfl)) (pa_cons (pe_call G__law_other_way (hr.mono (by first | decide | omega)) (by rfl) T.g__law_other_way T.F__law_other_way.kp T.b__law_other_way .nil pass0 (pa_cons (pe_ix (ix_tupC (K := K) rfl) (pv 1) (pv 2) (fun _ _ => rfl)) pa_nil)) pa_nil))))) pa_nil)))), ?_⟩
  refine ⟨3, rfl, by decide, by decide, fun D nD => ?_⟩
  refine lc_mapR (K := K) (n := 3) [eF (p.at 0 - q.at 0), eF (p.at 1 - q.at 1), eF (p.at 2 - q.at 2)] nD rfl (by decide) (fun i H2 d hi hd S R r => ?_) (fun H2 ys S hD hys => ?_)
  · obtain ⟨_, rfl⟩ := e3 (f := fun i => eF (p.at i - q.at i)) d hd
    refine ⟨rfl, _, rfl, _, rfl, ?_⟩
    rw [Int.zero_add]
    refine rx_dt (h1.same S) (at_get hi) fun x hx => ?_
    refine ⟨_, rfl, _, rfl, rx_dt (h2.same S) (at_get hi) fun y hy => ?_⟩
    refine ⟨_, _, rfl, hy, fun H3 y S3 hy => ?_⟩
    exact ⟨_, _, _, _, 4000, 4000, rfl, hx.same S3, hy, b1.at i, rb_neg (b2.at i), by decide, trivial, fun H4 y S4 hy => r y H4 (S3.trans S4) (by rw [Rat.sub_eq_add_neg]; exact hy)⟩
  · exact ⟨D, ys, rfl, .inl ⟨SqL.of hD, fun l hl => k _ _ (S.trans (same_upd hl)) (dt_new hl hys)⟩⟩
theorem okD__law_many (T : Tx K mg w) : FnOk P w K mg base CX0 4 T.f__law_many T.d__law_many ["_law_point_here", "_law_number_here"] (spD_scale K) := by
  have G__law_times := okD__law_times (P := P) (w := w) (base := base) T
  refine T.F__law_many.ok sc__law_many (fun vs H Q E h => ?_) (fun cdv A outer s H vs Q E hr h => ?_)
  · obtain ⟨_, _, _, _, rfl, _⟩ := h
    rfl
  obtain ⟨v1, v2, p, c, rfl, h1, h2, b1, bc, k⟩ := h
  refine ⟨_, (pss_one (ps_ret (pe_callTy call_tuple_of (by rfl) T.m_tuple (by decide +kernel) (pa_cons (pe_lc (own := [("_law_part", 2)]) (g := gName 2) (by rfl) sc__law_many.nd (pi_tup (pv 0)) (blkOk_by (own := [("_law_part", 2)]) (N := nm__law_many) (sc := defScope s__law_many) (by decide +kernel)) (fun _ _ _ _ _ => (pg_name (i := 2) sc__law_many.nd rfl (Or.inl rfl))) (fun _ _ _ _ _ => pts_nil) (fun _ _ _ _ _ => (pe_call G__law_times (hr.mono (by first | decide | omega)) (by rfl) T.g__law_times T.F__law_times.kp T.b__law_times .nil pass0 (pa_cons (pv 2) (pa_cons (pv 1) pa_nil))))) pa_nil)))), ?_⟩
  obtain ⟨a, xs, rfl, ha, hs⟩ := DT.inv h1
  refine ⟨_, rfl, a, rfl, ⟨_, ha.sq⟩, fun D nD => ?_⟩
  refine lc_mapT [eF (p.at 0 * c), eF (p.at 1 * c), eF (p.at 2 * c)] nD ha.sq (hs.len.symm) (by show 3 ≤ 1000; decide) (fun i x H2 d hx hd S R r => ?_) (fun H2 ys S hD hys => ?_)
  · obtain ⟨hi, rfl⟩ := e3 (f := fun i => eF (p.at i * c)) d hd
    obtain ⟨d', e', hx'⟩ := hs.get' hx
    have e' := (at_get (p := p) hi).symm.trans e'
    cases e'
    exact ⟨rfl, _, rfl, _, rfl, _, _, _, _, 4000, 4000, rfl, hx'.same S, h2.same S, b1.at i, bc, by decide, trivial, fun H3 y S3 hy => r y H3 S3 hy⟩
  · exact ⟨D, ys, rfl, .inl ⟨SqL.of hD, fun l hl => k _ _ (S.trans (same_upd hl)) (dt_new hl hys)⟩⟩
end

/-! ### sizes: a whole number over a fixed one -/
def Fx (D N : Nat) (q : Rat) : Prop := ∃ a : Int, q = Rat.divInt a D ∧ a.natAbs ≤ N
theorem Fx.mono {D N N' : Nat} {q : Rat} (h : Fx D N q) (hn : N ≤ N') : Fx D N' q := by
  obtain ⟨a, e, h⟩ := h
  exact ⟨a, e, Nat.le_trans h hn⟩
theorem Fx.rb {D N n : Nat} {q : Rat} (h : Fx D N q) (h0 : 0 < D) (hD : D < 2 ^ n) (hN : N < 2 ^ n) : Rb n q := by
  obtain ⟨a, rfl, h⟩ := h
  exact rb_div (by omega) (show a.natAbs < 2 ^ n by omega) (show ((D : Int)).natAbs < 2 ^ n by omega)
theorem Fx.add {D N M : Nat} {q r : Rat} (h0 : 0 < D) (h : Fx D N q) (k : Fx D M r) : Fx D (N + M) (q + r) := by
  obtain ⟨a, rfl, h⟩ := h
  obtain ⟨b, rfl, k⟩ := k
  refine ⟨a + b, ?_, by omega⟩
  have hd : ((D : Int)) ≠ 0 := by omega
  rw [Rat.divInt_add_divInt _ _ hd hd, Rat.divInt_eq_divInt_iff (Int.mul_ne_zero hd hd) hd]
  grind
theorem Fx.mul {D E N M : Nat} {q r : Rat} (h : Fx D N q) (k : Fx E M r) : Fx (D * E) (N * M) (q * r) := by
  obtain ⟨a, rfl, h⟩ := h
  obtain ⟨b, rfl, k⟩ := k
  refine ⟨a * b, ?_, ?_⟩
  · rw [Rat.divInt_mul_divInt, Int.natCast_mul]
  · rw [Int.natAbs_mul]; exact Nat.mul_le_mul h k
theorem Fx.neg {D N : Nat} {q : Rat} (h : Fx D N q) : Fx D N (-q) := by
  obtain ⟨a, rfl, h⟩ := h
  exact ⟨-a, by rw [Rat.neg_divInt], by omega⟩
theorem Fx.up {D N : Nat} {q : Rat} (k : Nat) (hk : 0 < k) (h : Fx D N q) (h0 : 0 < D) : Fx (D * k) (N * k) q := by
  obtain ⟨a, rfl, h⟩ := h
  refine ⟨a * k, ?_, ?_⟩
  · rw [Rat.divInt_eq_divInt_iff (by omega) (by have := Nat.mul_pos h0 hk; omega), Int.natCast_mul]
    grind
  · rw [Int.natAbs_mul]; exact Nat.mul_le_mul h (by omega)
theorem Fx.zero {D N : Nat} : Fx D N 0 := ⟨0, by rw [Rat.zero_divInt], by omega⟩
def P3.F (D N : Nat) (p : P3) : Prop := Fx D N p.x ∧ Fx D N p.y ∧ Fx D N p.z
theorem P3.F.B {D N n : Nat} {p : P3} (h : p.F D N) (h0 : 0 < D) (hD : D < 2 ^ n) (hN : N < 2 ^ n) : p.B n := ⟨h.1.rb h0 hD hN, h.2.1.rb h0 hD hN, h.2.2.rb h0 hD hN⟩
theorem P3.F.add {D N M : Nat} {p q : P3} (h0 : 0 < D) (h : p.F D N) (k : q.F D M) : (p.add q).F D (N + M) := ⟨h.1.add h0 k.1, h.2.1.add h0 k.2.1, h.2.2.add h0 k.2.2⟩
theorem P3.F.mono {D N M : Nat} {p : P3} (h : p.F D N) (hn : N ≤ M) : p.F D M := ⟨h.1.mono hn, h.2.1.mono hn, h.2.2.mono hn⟩
theorem P3.F.scale {D E N M : Nat} {p : P3} {k : Rat} (h : p.F D N) (hk : Fx E M k) : (p.scale k).F (D * E) (N * M) := ⟨h.1.mul hk, h.2.1.mul hk, h.2.2.mul hk⟩
theorem P3.F.dot {D E N M : Nat} {p q : P3} (h0 : 0 < D * E) (h : p.F D N) (k : q.F E M) : Fx (D * E) (N * M + N * M + N * M) (p.dot q) := ((h.1.mul k.1).add h0 (h.2.1.mul k.2.1)).add h0 (h.2.2.mul k.2.2)
theorem divInt_pos {a b : Int} (ha : 0 < a) (hb : 0 < b) : 0 < Rat.divInt a b := by
  have h1 : 0 ≤ Rat.divInt a b := by
    refine Rat.num_nonneg.mp ?_
    rw [← sg_num (by omega)]
    have sp : 0 < sg a b := by
      have := (sg_ne (a := a) (b := b) (by omega)).1
      unfold sg at *
      rw [if_neg (by omega)] at *
      omega
    rw [Int.fdiv_eq_ediv_of_nonneg _ (by omega)]
    exact Int.ediv_nonneg (by omega) (by omega)
  have h2 : Rat.divInt a b ≠ 0 := fun z => by
    have := (Rat.divInt_eq_divInt_iff (d₁ := b) (d₂ := 1) (n₁ := a) (n₂ := 0) (by omega) (by decide)).mp (by rw [z]; rfl)
    omega
  grind
/-- a leaf's form as the laws draw it -/
def LeafF : Form → Prop
  | .box lo hi => lo.F 42 378 ∧ hi.F 42 756 ∧ lo.x < hi.x ∧ lo.y < hi.y ∧ lo.z < hi.z
  | .ball m r => m.F 42 378 ∧ Fx 42 378 r ∧ 0 < r
  | .half w b => w.F 42 378 ∧ Fx 42 378 b ∧ ¬ (w.x = 0 ∧ w.y = 0 ∧ w.z = 0)
  | _ => False
section
variable {P : Program} {w : World} {K : PySem.W.Frag} {mg : Str → Option Value} {base : Heap}
theorem fx42 {a b : Int} (ha : a.natAbs ≤ 9) (hb : b = 1 ∨ b = 2 ∨ b = 3 ∨ b = 7) : Fx 42 378 (Rat.divInt a b) := by
  refine ⟨a * (42 / b), ?_, ?_⟩
  · rcases hb with rfl | rfl | rfl | rfl <;> rw [Rat.divInt_eq_divInt_iff (by decide) (by decide)] <;> omega
  · rcases hb with rfl | rfl | rfl | rfl <;> omega
def sp_num (K : PySem.W.Frag) (lo : Int) : Sp := fun vs H Q _ => ∃ (d l s : Addr) (ns : List Int) (c : Nat), vs = [.ref d] ∧ Dk K H d l s ns c ∧ c + 4 < 2 ^ 30 ∧
  ∀ H' v q, Keep d l H H' → Dk K H' d l s ns (c + 2) → DT K H' v (eF q) → Fx 42 378 q → (0 < lo → 0 < q) → Q v H'
theorem okD__law_number (T : Tx K mg w) : FnOk P w K mg base CX0 4 T.f__law_number T.d__law_number ["_law_deck_here"] (sp_num K (-9)) := by
  have G__law_take := ok__law_take (P := P) (w := w) (base := base) T
  have G__law_frac := ok__law_frac (P := P) (w := w) (base := base) T
  refine T.F__law_number.ok sc__law_number (fun vs H Q E h => ?_) (fun cdv A outer s H vs Q E hr h => ?_)
  · obtain ⟨_, _, _, _, _, rfl, _⟩ := h
    rfl
  obtain ⟨d, l, s, ns, c, rfl, hD, hc, q⟩ := h
  refine ⟨_, (pss_one (ps_ret (pe_call G__law_frac (hr.mono (by first | decide | omega)) (by rfl) T.g__law_frac T.F__law_frac.kp T.b__law_frac .nil pass0 (pa_cons (pe_op op_sub (pe_call G__law_take (hr.mono (by first | decide | omega)) (by rfl) T.g__law_take T.F__law_take.kp T.b__law_take .nil pass0 (pa_cons (pv 0) (pa_cons pe_int pa_nil))) pe_int) (pa_cons (pe_ix ix_list (pe_lst (pa_cons pe_int (pa_cons pe_int (pa_cons pe_int (pa_cons pe_int (pa_cons pe_int (pa_cons pe_int pa_nil))))))) (pe_call G__law_take (hr.mono (by first | decide | omega)) (by rfl) T.g__law_take T.F__law_take.kp T.b__law_take .nil pass0 (pa_cons (pv 0) (pa_cons pe_int pa_nil))) (fun _ _ => rfl)) pa_nil))))), ?_⟩
  refine ⟨.ref d, rfl, d, l, s, ns, c, 19, rfl, hD, by omega, by decide, by decide, fun H1 v k1 D1 v0 v1 => ?_⟩
  refine ⟨v, 9, rfl, rfl, sz_n (by decide : 6 ≤ 1000), fun p hp => ?_⟩
  have pd : p ≠ d := fun z => by
    obtain ⟨_, _, _, h, _⟩ := D1
    rw [z, h] at hp
    cases hp
  have pl : p ≠ l := fun z => by
    obtain ⟨_, _, _, _, h, _⟩ := D1
    rw [z, h] at hp
    cases hp
  refine ⟨.ref d, rfl, d, l, s, ns, c + 1, 6, rfl, D1.new hp, by omega, by decide, by decide, fun H2 e k2 D2 e0 e1 => ?_⟩
  have hp2 := k2 p _ upd_same pd pl
  obtain ⟨x, hx, x0⟩ : ∃ x : Int, atI [V.int 1, V.int 1, V.int 1, V.int 2, V.int 3, V.int 7] e = some (.int x) ∧ (x = 1 ∨ x = 2 ∨ x = 3 ∨ x = 7) := by
    have : e = 0 ∨ e = 1 ∨ e = 2 ∨ e = 3 ∨ e = 4 ∨ e = 5 := by omega
    rcases this with rfl | rfl | rfl | rfl | rfl | rfl
    · exact ⟨1, rfl, .inl rfl⟩
    · exact ⟨1, rfl, .inl rfl⟩
    · exact ⟨1, rfl, .inl rfl⟩
    · exact ⟨2, rfl, .inr (.inl rfl)⟩
    · exact ⟨3, rfl, .inr (.inr (.inl rfl))⟩
    · exact ⟨7, rfl, .inr (.inr (.inr rfl))⟩
  refine ⟨p, _, e, .int x, rfl, rfl, SqL.of hp2, hx, _, x, rfl, by omega, bt_small (by omega), fun H3 v3 s3 f3 => ?_⟩
  exact q H3 v3 _ (k1.trans ((keep_new hp).trans (k2.trans (same_keep s3)))) ((D2.same s3).mono (by omega)) (fr_of f3) (fx42 (by omega) x0) (fun z => absurd z (by decide))
theorem okD__law_size (T : Tx K mg w) : FnOk P w K mg base CX0 4 T.f__law_size T.d__law_size ["_law_deck_here"] (sp_num K 1) := by
  have G__law_take := ok__law_take (P := P) (w := w) (base := base) T
  have G__law_frac := ok__law_frac (P := P) (w := w) (base := base) T
  refine T.F__law_size.ok sc__law_size (fun vs H Q E h => ?_) (fun cdv A outer s H vs Q E hr h => ?_)
  · obtain ⟨_, _, _, _, _, rfl, _⟩ := h
    rfl
  obtain ⟨d, l, s, ns, c, rfl, hD, hc, q⟩ := h
  refine ⟨_, (pss_one (ps_ret (pe_call G__law_frac (hr.mono (by first | decide | omega)) (by rfl) T.g__law_frac T.F__law_frac.kp T.b__law_frac .nil pass0 (pa_cons (pe_op op_add pe_int (pe_call G__law_take (hr.mono (by first | decide | omega)) (by rfl) T.g__law_take T.F__law_take.kp T.b__law_take .nil pass0 (pa_cons (pv 0) (pa_cons pe_int pa_nil)))) (pa_cons (pe_ix ix_list (pe_lst (pa_cons pe_int (pa_cons pe_int (pa_cons pe_int (pa_cons pe_int pa_nil))))) (pe_call G__law_take (hr.mono (by first | decide | omega)) (by rfl) T.g__law_take T.F__law_take.kp T.b__law_take .nil pass0 (pa_cons (pv 0) (pa_cons pe_int pa_nil))) (fun _ _ => rfl)) pa_nil))))), ?_⟩
  refine ⟨.ref d, rfl, d, l, s, ns, c, 9, rfl, hD, by omega, by decide, by decide, fun H1 v k1 D1 v0 v1 => ?_⟩
  refine ⟨1, v, rfl, rfl, sz_n (by decide : 4 ≤ 1000), fun p hp => ?_⟩
  have pd : p ≠ d := fun z => by
    obtain ⟨_, _, _, h, _⟩ := D1
    rw [z, h] at hp
    cases hp
  have pl : p ≠ l := fun z => by
    obtain ⟨_, _, _, _, h, _⟩ := D1
    rw [z, h] at hp
    cases hp
  refine ⟨.ref d, rfl, d, l, s, ns, c + 1, 4, rfl, D1.new hp, by omega, by decide, by decide, fun H2 e k2 D2 e0 e1 => ?_⟩
  have hp2 := k2 p _ upd_same pd pl
  obtain ⟨x, hx, x0⟩ : ∃ x : Int, atI [V.int 1, V.int 1, V.int 2, V.int 3] e = some (.int x) ∧ (x = 1 ∨ x = 2 ∨ x = 3 ∨ x = 7) := by
    have : e = 0 ∨ e = 1 ∨ e = 2 ∨ e = 3 := by omega
    rcases this with rfl | rfl | rfl | rfl
    · exact ⟨1, rfl, .inl rfl⟩
    · exact ⟨1, rfl, .inl rfl⟩
    · exact ⟨2, rfl, .inr (.inl rfl)⟩
    · exact ⟨3, rfl, .inr (.inr (.inl rfl))⟩
  refine ⟨p, _, e, .int x, rfl, rfl, SqL.of hp2, hx, _, x, rfl, by omega, bt_small (by omega), fun H3 v3 s3 f3 => ?_⟩
  exact q H3 v3 _ (k1.trans ((keep_new hp).trans (k2.trans (same_keep s3)))) ((D2.same s3).mono (by omega)) (fr_of f3) (fx42 (by omega) x0) (fun _ => divInt_pos (by omega) (by omega))
def sp_point (K : PySem.W.Frag) : Sp := fun vs H Q _ => ∃ (d l s : Addr) (ns : List Int) (c : Nat), vs = [.ref d] ∧ Dk K H d l s ns c ∧ c + 10 < 2 ^ 30 ∧
  ∀ H' v p, Keep d l H H' → Dk K H' d l s ns (c + 6) → DT K H' v (eP p) → p.F 42 378 → Q v H'
theorem okD__law_point (T : Tx K mg w) : FnOk P w K mg base CX0 5 T.f__law_point T.d__law_point ["_law_deck_here"] (sp_point K) := by
  have G__law_number := okD__law_number (P := P) (w := w) (base := base) T
  refine T.F__law_point.ok sc__law_point (fun vs H Q E h => ?_) (fun cdv A outer s H vs Q E hr h => ?_)
  · obtain ⟨_, _, _, _, _, rfl, _⟩ := h
    rfl
  obtain ⟨d, l, s, ns, c, rfl, hD, hc, q⟩ := h
  refine ⟨_, (pss_one (ps_ret (pe_tup (pa_cons (pe_call G__law_number (hr.mono (by first | decide | omega)) (by rfl) T.g__law_number T.F__law_number.kp T.b__law_number .nil pass0 (pa_cons (pv 0) pa_nil)) (pa_cons (pe_call G__law_number (hr.mono (by first | decide | omega)) (by rfl) T.g__law_number T.F__law_number.kp T.b__law_number .nil pass0 (pa_cons (pv 0) pa_nil)) (pa_cons (pe_call G__law_number (hr.mono (by first | decide | omega)) (by rfl) T.g__law_number T.F__law_number.kp T.b__law_number .nil pass0 (pa_cons (pv 0) pa_nil)) pa_nil)))))), ?_⟩
  refine ⟨.ref d, rfl, d, l, s, ns, c, rfl, hD, by omega, fun H1 v1 q1 k1 D1 f1 x1 _ => ?_⟩
  refine ⟨.ref d, rfl, d, l, s, ns, c + 2, rfl, D1, by omega, fun H2 v2 q2 k2 D2 f2 x2 _ => ?_⟩
  refine ⟨.ref d, rfl, d, l, s, ns, c + 4, rfl, D2, by omega, fun H3 v3 q3 k3 D3 f3 x3 _ => ?_⟩
  have f1 := (f1.tk (k2.tk D1)).tk (k3.tk D2)
  have f2 := f2.tk (k3.tk D2)
  exact ⟨sz_n (by decide : 3 ≤ 1000), fun p hp => q _ _ ⟨q1, q2, q3⟩ (k1.trans (k2.trans (k3.trans (keep_new hp)))) ((D3.new hp).mono (by omega)) (dt3 hp f1 f2 f3) ⟨x1, x2, x3⟩⟩
end

/-! ### data held against data -/
section
variable {P : Program} {w : World} {K : PySem.W.Frag} {mg : Str → Option Value} {base : Heap}
def PD : Nat → PyData → Prop
  | _, .none => True
  | _, .int _ => True
  | _, .str _ => True
  | n + 1, .tuple ds => (∀ d ∈ ds, PD n d) ∧ ds.length ≤ 1000
  | _, _ => False
theorem sq_ty {H : Hp} {a : Addr} {xs : List V} (h : SqT K H a xs) : TyX K H (.ref a) (.type "tuple") := by
  rcases h with (h | ⟨o, h⟩) | ⟨o, its, n, h, c, _⟩
  · exact .base (.tup h)
  · exact .fTuple h
  · exact .kTuple h c
def sp_alike (K : PySem.W.Frag) (n : Nat) : Sp := fun vs H Q _ => ∃ v1 v2 d, vs = [v1, v2] ∧ DT K H v1 d ∧ DT K H v2 d ∧ PD n d ∧ ∀ H', Same H H' → Q (.bl true) H'
def sp_alikeR (K : PySem.W.Frag) : Nat → Sp
  | 0 => fun _ _ _ _ => False
  | n + 1 => sp_alike K n
theorem tw_alike (T : Tx K mg w) : ∀ n, FnOk P w K mg base CX0 n T.f__law_alike T.d__law_alike ["_law_found", "_law_due"] (sp_alikeR K n)
  | 0 => ⟨fun vs H Q E h => h.elim, fun A outer s H args us vs Q E _ _ _ _ h => h.elim⟩
  | n + 1 => by
    have G__law_alike := tw_alike T n
    refine T.F__law_alike.ok sc__law_alike (fun vs H Q E h => ?_) (fun cdv A outer s H vs Q E hr h => ?_)
    · obtain ⟨_, _, _, rfl, _⟩ := h
      rfl
    obtain ⟨v1, v2, d, rfl, h1, h2, pd, k⟩ := h
    refine ⟨_, (pss_cons (ps_if (pt_cmpR op_isN (pv 1) pe_non (nomark _)) (pss_one (ps_ret (pe_cmpR op_isN (pv 0) pe_non (nomark _)))) pss_nil)
      (pss_cons (ps_if (pt_val (pe_callB call_isi (by rfl) T.m_isinstance (by decide +kernel) (pa_cons (pv 1) (pa_cons (pe_bltn (v := .ty "str") (by rfl) T.m_str (by decide +kernel) rfl) pa_nil)))) (pss_one (ps_ret (pe_and (pe_callB call_isi (by rfl) T.m_isinstance (by decide +kernel) (pa_cons (pv 0) (pa_cons (pe_bltn (v := .ty "str") (by rfl) T.m_str (by decide +kernel) rfl) pa_nil))) (pe_one (pe_cmpR op_eq (pv 0) (pv 1) (nomark _)))))) pss_nil)
      (pss_cons (ps_if (pt_val (pe_callB call_isi (by rfl) T.m_isinstance (by decide +kernel) (pa_cons (pv 1) (pa_cons (pe_bltn (v := .ty "int") (by rfl) T.m_int (by decide +kernel) rfl) pa_nil)))) (pss_one (ps_ret (pe_and (pe_callB call_isi (by rfl) T.m_isinstance (by decide +kernel) (pa_cons (pv 0) (pa_cons (pe_bltn (v := .ty "int") (by rfl) T.m_int (by decide +kernel) rfl) pa_nil))) (pe_and (pe_not (pe_callB call_isi (by rfl) T.m_isinstance (by decide +kernel) (pa_cons (pv 0) (pa_cons (pe_bltn (v := .ty "bool") (by rfl) T.m_bool (by decide +kernel) rfl) pa_nil)))) (pe_one (pe_cmpR op_eq (pv 0) (pv 1) (nomark _))))))) pss_nil)
      (pss_cons (ps_if (PW.pt (pw_or (pt_not (pt_val (pe_callB call_isi (by rfl) T.m_isinstance (by decide +kernel) (pa_cons (pv 0) (pa_cons (pe_bltn (v := .ty "tuple") (by rfl) T.m_tuple (by decide +kernel) rfl) pa_nil))))) (pw_or1 (pt_cmpR op_ne (pe_callB call_len_seq (by rfl) T.m_len (by decide +kernel) (pa_cons (pv 0) pa_nil)) (pe_callB call_len_seq (by rfl) T.m_len (by decide +kernel) (pa_cons (pv 1) pa_nil)) (nomark _))))) (pss_one (ps_ret pe_bl)) pss_nil)
      (pss_one (ps_ret (pe_cmpR (op_eqD hr.units) (pe_lc (own := [("_law_k", 2)]) (g := gName 2) (by rfl) sc__law_alike.nd (pi_range1 (by rfl) T.m_range (pa_cons (pe_callB call_len_seq (by rfl) T.m_len (by decide +kernel) (pa_cons (pv 1) pa_nil)) pa_nil)) (blkOk_by (own := [("_law_k", 2)]) (N := nm__law_alike) (sc := defScope s__law_alike) (by decide +kernel)) (fun _ _ _ _ _ => (pg_name (i := 2) sc__law_alike.nd rfl (Or.inl rfl))) (fun _ _ _ _ _ => (pts_one (pt_not (pt_val (pe_call G__law_alike (hr.mono (by first | decide | omega)) (by rfl) T.g__law_alike T.F__law_alike.kp T.b__law_alike .nil pass0 (pa_cons (pe_ix (ix_tupC (K := K) rfl) (pv 0) (pv 2) (fun _ _ => rfl)) (pa_cons (pe_ix (ix_tupC (K := K) rfl) (pv 1) (pv 2) (fun _ _ => rfl)) pa_nil))))))) (fun _ _ _ _ _ => (pv 2))) (pe_lst pa_nil) (nomark _)))))))), ?_⟩
    cases d with
    | none =>
      cases h1
      cases h2
      exact ⟨_, rfl, rfl, _, rfl, iteT ⟨_, rfl, rfl, k H (Same.refl _)⟩⟩
    | str x =>
      cases h1
      cases h2
      refine ⟨_, rfl, rfl, _, rfl, iteF ?_⟩
      refine ⟨_, rfl, _, _, _, _, true, rfl, .ty _, .base (.str x), kit_ty (by decide +kernel), true, rfl, iteT ?_⟩
      refine ⟨_, rfl, _, _, _, _, true, rfl, .ty _, .base (.str x), kit_ty (by decide +kernel), true, rfl, iteT ?_⟩
      exact ⟨_, rfl, _, rfl, rfl, by rw [decide_eq_true rfl]; exact k H (Same.refl _)⟩
    | int x =>
      cases h1
      cases h2
      refine ⟨_, rfl, rfl, _, rfl, iteF ?_⟩
      refine ⟨_, rfl, _, _, _, _, false, rfl, .ty _, .base (.int x), kit_ty (by decide +kernel), false, rfl, iteF ?_⟩
      refine ⟨_, rfl, _, _, _, _, true, rfl, .ty _, .base (.int x), kit_ty (by decide +kernel), true, rfl, iteT ?_⟩
      refine ⟨_, rfl, _, _, _, _, true, rfl, .ty _, .base (.int x), kit_ty (by decide +kernel), true, rfl, iteT ?_⟩
      refine ⟨_, rfl, _, _, _, _, false, rfl, .ty _, .base (.int x), kit_ty (by decide +kernel), false, rfl, true, rfl, iteT ?_⟩
      exact ⟨_, rfl, _, rfl, rfl, by rw [decide_eq_true rfl]; exact k H (Same.refl _)⟩
    | tuple ds =>
      cases n with
      | zero => exact pd.elim
      | succ n =>
        obtain ⟨a1, xs1, rfl, ha1, hs1⟩ := DT.inv h1
        obtain ⟨a2, xs2, rfl, ha2, hs2⟩ := DT.inv h2
        refine ⟨_, rfl, rfl, _, rfl, iteF ?_⟩
        refine ⟨_, rfl, _, _, _, _, false, rfl, .ty _, sq_ty ha2.sq, kit_ty (by decide +kernel), false, rfl, iteF ?_⟩
        refine ⟨_, rfl, _, _, _, _, false, rfl, .ty _, sq_ty ha2.sq, kit_ty (by decide +kernel), false, rfl, iteF ?_⟩
        refine ⟨_, rfl, _, _, _, _, true, rfl, .ty _, sq_ty ha1.sq, kit_ty (by decide +kernel), true, rfl, iteF ?_⟩
        refine ⟨_, rfl, a1, _, rfl, .inr ha1.sq, _, rfl, a2, _, rfl, .inr ha2.sq, rfl, _, rfl, iteNS (by rw [hs1.len, hs2.len]) ?_⟩
        have hn : xs2.length ≤ 1000 := by rw [hs2.len]; exact pd.2
        refine ⟨_, rfl, a2, _, rfl, .inr ha2.sq, _, rfl, by omega, by omega, fun D nD => ?_⟩
        refine lc_range (lo := 0) (n := xs2.length) (fun i H' => Same H H' ∧ H' D = some (.lst [])) ⟨same_upd nD, upd_same⟩ (fun i H' hi p => ?_) (fun H' p => ?_)
        · obtain ⟨S, hD⟩ := p
          have hi1 : i < ds.length := by rw [← hs2.len]; exact hi
          have ed := List.getElem?_eq_getElem hi1
          refine ⟨rfl, _, rfl, _, rfl, ?_⟩
          rw [Int.zero_add]
          refine rx_dt (h1.same S) ed fun x hx => ?_
          refine ⟨_, rfl, _, rfl, rx_dt (h2.same S) ed fun y hy => ?_⟩
          exact ⟨_, _, _, rfl, hx, hy, pd.1 _ (List.getElem_mem hi1), fun H2 S2 => ⟨true, rfl, iteF ⟨S.trans S2, S2 _ _ hD⟩⟩⟩
        · obtain ⟨S, hD⟩ := p
          refine ⟨Nat.zero_le _, fun p3 h3 => ?_⟩
          exact ⟨_, _, Dp.lst (SqL.of (same_upd h3 _ _ hD)) DpAll.nil, Dp.lst (SqL.of upd_same) DpAll.nil, rfl, rfl, k _ (S.trans (same_upd h3))⟩
    | bool b => cases n <;> exact False.elim pd
    | list ds => cases n <;> exact False.elim pd
    | dict ds => cases n <;> exact False.elim pd
/-! constants of three pairs -/
def PIt (te : TE) (σ : L2.St) (a : Int) : Prop := ∀ (H : Hp) (R : VK), R (.int a) H → te σ H R
theorem pi_c {σ : L2.St} {a : Int} : PIt (tC (.int a)) σ a := fun _ _ q => q
theorem pi_neg {σ : L2.St} {a : Int} : PIt (tUn (rU fun i => .int (-i)) (tC (.int a))) σ (-a) := fun _ _ q => ⟨a, rfl, q⟩
theorem tup2i {te1 te2 : TE} {σ : L2.St} {H : Hp} {Q : VK} {a b : Int} (h1 : PIt te1 σ a) (h2 : PIt te2 σ b) (k : ∀ H' v, Same H H' → DT K H' v (.tuple [.int a, .int b]) → Q v H') : tTup (tCons te1 (tCons te2 tNil)) σ H Q :=
  h1 _ _ (h2 _ _ ⟨sz_n (by decide : 2 ≤ 1000), fun p hp => k _ _ (same_upd hp) (dt2 hp (.int _) (.int _))⟩)
theorem tup3i {te11 te12 te21 te22 te31 te32 : TE} {σ : L2.St} {H : Hp} {Q : VK} {a b c d e f : Int} (h11 : PIt te11 σ a) (h12 : PIt te12 σ b) (h21 : PIt te21 σ c) (h22 : PIt te22 σ d) (h31 : PIt te31 σ e) (h32 : PIt te32 σ f)
    (k : ∀ H' v, Same H H' → DT K H' v (.tuple [.tuple [.int a, .int b], .tuple [.int c, .int d], .tuple [.int e, .int f]]) → Q v H') :
    tTup (tCons (tTup (tCons te11 (tCons te12 tNil))) (tCons (tTup (tCons te21 (tCons te22 tNil))) (tCons (tTup (tCons te31 (tCons te32 tNil))) tNil))) σ H Q := by
  refine rd_tup (rd_cons (tup2i (K := K) h11 h12 fun H1 v1 S1 z1 => rd_cons (tup2i (K := K) h21 h22 fun H2 v2 S2 z2 => rd_cons (tup2i (K := K) h31 h32 fun H3 v3 S3 z3 => ?_))))
  exact ⟨sz_n (by decide : 3 ≤ 1000), fun p hp => k _ _ (((S1.trans S2).trans S3).trans (same_upd hp)) (dt3 hp (z1.same (S2.trans S3)) (z2.same S3) z3)⟩
def sp_base (K : PySem.W.Frag) : Sp := fun vs H Q _ => ∃ (d l s : Addr) (ns : List Int) (c : Nat), vs = [.ref d] ∧ Dk K H d l s ns c ∧ c + 30 < 2 ^ 30 ∧
  ∀ H' v f, Keep d l H H' → Dk K H' d l s ns (c + 13) → DT K H' v (eForm f) → LeafF f → Q v H'
theorem fx_le {p s : Rat} (h : 0 < s) : p < p + s := by grind
theorem okD__law_base (T : Tx K mg w) : FnOk P w K mg base CX0 6 T.f__law_base T.d__law_base ["_law_deck_here"] (sp_base K) := by
  have G__law_take := ok__law_take (P := P) (w := w) (base := base) T
  have G__law_point := okD__law_point (P := P) (w := w) (base := base) T
  have G__law_size := okD__law_size (P := P) (w := w) (base := base) T
  have G__law_number := okD__law_number (P := P) (w := w) (base := base) T
  have G__law_added := okD__law_added (P := P) (w := w) (base := base) T
  refine T.F__law_base.ok sc__law_base (fun vs H Q E h => ?_) (fun cdv A outer s H vs Q E hr h => ?_)
  · obtain ⟨_, _, _, _, _, rfl, _⟩ := h
    rfl
  obtain ⟨d, l, s, ns, c, rfl, hD, hc, q⟩ := h
  refine ⟨_, (pss_cons (ps_set (i := 1) sc__law_base.nd rfl (Or.inl rfl) (pe_call G__law_take (hr.mono (by first | decide | omega)) (by rfl) T.g__law_take T.F__law_take.kp T.b__law_take .nil pass0 (pa_cons (pv 0) (pa_cons pe_int pa_nil))))
      (pss_cons (ps_set (i := 2) sc__law_base.nd rfl (Or.inl rfl) (pe_call G__law_point (hr.mono (by first | decide | omega)) (by rfl) T.g__law_point T.F__law_point.kp T.b__law_point .nil pass0 (pa_cons (pv 0) pa_nil)))
      (pss_cons (ps_if (pt_cmpR op_eq (pv 1) pe_int (nomark _)) (pss_one (ps_ret (pe_tup (pa_cons pe_str (pa_cons (pv 2) (pa_cons (pe_call G__law_added (hr.mono (by first | decide | omega)) (by rfl) T.g__law_added T.F__law_added.kp T.b__law_added .nil pass0 (pa_cons (pv 2) (pa_cons (pe_tup (pa_cons (pe_call G__law_size (hr.mono (by first | decide | omega)) (by rfl) T.g__law_size T.F__law_size.kp T.b__law_size .nil pass0 (pa_cons (pv 0) pa_nil)) (pa_cons (pe_call G__law_size (hr.mono (by first | decide | omega)) (by rfl) T.g__law_size T.F__law_size.kp T.b__law_size .nil pass0 (pa_cons (pv 0) pa_nil)) (pa_cons (pe_call G__law_size (hr.mono (by first | decide | omega)) (by rfl) T.g__law_size T.F__law_size.kp T.b__law_size .nil pass0 (pa_cons (pv 0) pa_nil)) pa_nil)))) pa_nil))) pa_nil)))))) pss_nil)
      (pss_cons (ps_if (pt_cmpR op_eq (pv 1) pe_int (nomark _)) (pss_one (ps_ret (pe_tup (pa_cons pe_str (pa_cons (pv 2) (pa_cons (pe_call G__law_size (hr.mono (by first | decide | omega)) (by rfl) T.g__law_size T.F__law_size.kp T.b__law_size .nil pass0 (pa_cons (pv 0) pa_nil)) pa_nil)))))) pss_nil)
      (pss_cons (ps_if (pt_cmpR (op_eqD hr.units) (pv 2) (pe_tup (pa_cons (pe_tup (pa_cons pe_int (pa_cons pe_int pa_nil))) (pa_cons (pe_tup (pa_cons pe_int (pa_cons pe_int pa_nil))) (pa_cons (pe_tup (pa_cons pe_int (pa_cons pe_int pa_nil))) pa_nil)))) (nomark _)) (pss_one (ps_set (i := 2) sc__law_base.nd rfl (Or.inl rfl) (pe_tup (pa_cons (pe_tup (pa_cons pe_int (pa_cons pe_int pa_nil))) (pa_cons (pe_tup (pa_cons (pe_un un_neg pe_int) (pa_cons pe_int pa_nil))) (pa_cons (pe_tup (pa_cons pe_int (pa_cons pe_int pa_nil))) pa_nil)))))) pss_nil)
      (pss_one (ps_ret (pe_tup (pa_cons pe_str (pa_cons (pv 2) (pa_cons (pe_call G__law_number (hr.mono (by first | decide | omega)) (by rfl) T.g__law_number T.F__law_number.kp T.b__law_number .nil pass0 (pa_cons (pv 0) pa_nil)) pa_nil))))))))))), ?_⟩
  rw [show L2.start nm__law_base [.ref d] = [some (.ref d), none, none] from rfl]
  refine ⟨.ref d, rfl, d, l, s, ns, c, 3, rfl, hD, by omega, by decide, by decide, fun H1 kd k1 D1 kd0 kd1 => ?_⟩
  dsimp only [gName, List.set_cons_succ, List.set_cons_zero]
  refine ⟨.ref d, rfl, d, l, s, ns, c + 1, rfl, D1, by omega, fun H2 vp p k2 D2 zp fp => ?_⟩
  dsimp only [gName, List.set_cons_succ, List.set_cons_zero]
  have k12 := k1.trans k2
  refine ⟨_, rfl, rfl, _, rfl, ite2 (fun _ => ?_) (fun _ => ?_)⟩
  · refine ⟨_, rfl, _, rfl, ?_⟩
    refine ⟨.ref d, rfl, d, l, s, ns, c + 7, rfl, D2, by omega, fun H3 v3 s3 k3 D3 z3 f3 p3 => ?_⟩
    refine ⟨.ref d, rfl, d, l, s, ns, c + 9, rfl, D3, by omega, fun H4 v4 s4 k4 D4 z4 f4 p4 => ?_⟩
    refine ⟨.ref d, rfl, d, l, s, ns, c + 11, rfl, D4, by omega, fun H5 v5 s5 k5 D5 z5 f5 p5 => ?_⟩
    have t35 := (k4.tk D3).trans (k5.tk D4)
    refine ⟨sz_n (by decide : 3 ≤ 1000), fun r hr' => ?_⟩
    have zs := dt3 hr' (z3.tk t35) (z4.tk (k5.tk D4)) z5
    have zp5 := ((zp.tk (k3.tk D2)).tk t35).tk (tk_new hr' (o := .tup [v3, v4, v5]))
    have D6 := D5.new hr' (o := .tup [v3, v4, v5])
    have k6 := keep_new (d := d) (l := l) hr' (o := .tup [v3, v4, v5])
    generalize upd H5 r (.tup [v3, v4, v5]) = H6 at zs zp5 D6 k6 ⊢
    have fs : P3.F 42 378 ⟨s3, s4, s5⟩ := ⟨f3, f4, f5⟩
    refine ⟨_, _, p, ⟨s3, s4, s5⟩, rfl, zp5, zs, fp.B (by decide) (by exact Nat.lt_of_lt_of_le (by decide : 42 < 2 ^ 10) (Nat.pow_le_pow_right (by decide) (by decide))) (by exact Nat.lt_of_lt_of_le (by decide : 378 < 2 ^ 10) (Nat.pow_le_pow_right (by decide) (by decide))), fs.B (by decide) (by exact Nat.lt_of_lt_of_le (by decide : 42 < 2 ^ 10) (Nat.pow_le_pow_right (by decide) (by decide))) (by exact Nat.lt_of_lt_of_le (by decide : 378 < 2 ^ 10) (Nat.pow_le_pow_right (by decide) (by decide))), fun H7 v7 S7 z7 => ?_⟩
    refine ⟨sz_n (by decide : 3 ≤ 1000), fun r2 hr2 => ?_⟩
    refine q _ _ (.box p (p.add ⟨s3, s4, s5⟩)) (k12.trans (k3.trans (k4.trans (k5.trans (k6.trans ((same_keep S7).trans (keep_new hr2))))))) (((D6.same S7).new hr2).mono (by omega)) (dt3 hr2 (.str _) (zp5.same S7) z7) ⟨fp, (fp.add (by decide) fs).mono (by decide), fx_le (p3 (by decide)), fx_le (p4 (by decide)), fx_le (p5 (by decide))⟩
  refine ⟨_, rfl, rfl, _, rfl, ite2 (fun _ => ?_) (fun _ => ?_)⟩
  · refine ⟨_, rfl, .ref d, rfl, d, l, s, ns, c + 7, rfl, D2, by omega, fun H3 v3 s3 k3 D3 z3 f3 p3 => ?_⟩
    exact ⟨sz_n (by decide : 3 ≤ 1000), fun r2 hr2 => q _ _ (.ball p s3) (k12.trans (k3.trans (keep_new hr2))) ((D3.new hr2).mono (by omega)) (dt3 hr2 (.str _) (zp.tk (k3.tk D2)) z3) ⟨fp, f3, p3 (by decide)⟩⟩
  · refine ⟨_, rfl, tup3i (K := K) pi_c pi_c pi_c pi_c pi_c pi_c fun H3 v3 S3 z3 => ?_⟩
    refine ⟨_, _, (zp.same S3).dp, z3.dp, rfl, rfl, _, rfl, ite2 (fun _ => ?_) (fun e => ?_)⟩
    · refine tup3i (K := K) pi_c pi_c pi_neg pi_c pi_c pi_c fun H4 v4 S4 z4 => ?_
      dsimp only [gName, List.set_cons_succ, List.set_cons_zero]
      have z4 : DT K H4 v4 (eP ⟨0, -2, 0⟩) := z4
      have D4 := (D2.same S3).same S4
      refine ⟨_, rfl, .ref d, rfl, d, l, s, ns, c + 7, rfl, D4, by omega, fun H5 v5 s5 k5 D5 z5 f5 p5 => ?_⟩
      exact ⟨sz_n (by decide : 3 ≤ 1000), fun r2 hr2 => q _ _ (.half ⟨0, -2, 0⟩ s5) (k12.trans ((same_keep (S3.trans S4)).trans (k5.trans (keep_new hr2)))) ((D5.new hr2).mono (by omega)) (dt3 hr2 (.str _) (z4.tk (k5.tk D4)) z5) ⟨⟨Fx.zero, ⟨-84, rfl, by decide⟩, Fx.zero⟩, f5, fun h => absurd h.2.1 (by decide)⟩⟩
    · have D3 := D2.same S3
      have nz : ¬ (p.x = 0 ∧ p.y = 0 ∧ p.z = 0) := fun ⟨e1, e2, e3⟩ => e (by
        obtain ⟨x, y, z⟩ := p
        dsimp only at e1 e2 e3
        subst e1 e2 e3
        rw [show (PyData.tuple [.tuple [.int 0, .int 1], .tuple [.int 0, .int 1], .tuple [.int 0, .int 1]]) = eP ⟨0, 0, 0⟩ from rfl, SeqAt.eqv_refl]
        rfl)
      refine ⟨_, rfl, .ref d, rfl, d, l, s, ns, c + 7, rfl, D3, by omega, fun H5 v5 s5 k5 D5 z5 f5 p5 => ?_⟩
      exact ⟨sz_n (by decide : 3 ≤ 1000), fun r2 hr2 => q _ _ (.half p s5) (k12.trans ((same_keep S3).trans (k5.trans (keep_new hr2)))) ((D5.new hr2).mono (by omega)) (dt3 hr2 (.str _) ((zp.same S3).tk (k5.tk D3)) z5) ⟨fp, f5, nz⟩⟩
end

/-! ### how a leaf is placed: by the program's way inward, by the law's way outward -/
theorem P3.ext {p q : P3} (h1 : p.x = q.x) (h2 : p.y = q.y) (h3 : p.z = q.z) : p = q := by
  cases p; cases q; cases h1; cases h2; cases h3; rfl
theorem T3.ext {s t : T3} (h1 : s.a = t.a) (h2 : s.b = t.b) (h3 : s.c = t.c) : s = t := by
  cases s; cases t; cases h1; cases h2; cases h3; rfl
theorem mul_app (s t : T3) (p : P3) : (s.mul t).app p = s.app (t.app p) := by
  refine P3.ext ?_ ?_ ?_ <;> simp only [T3.mul, T3.app, T3.tr, P3.dot] <;> grind
theorem app_add (t : T3) (p q : P3) : t.app (p.add q) = (t.app p).add (t.app q) := by
  refine P3.ext ?_ ?_ ?_ <;> simp only [T3.app, P3.add, P3.dot] <;> grind
theorem add_assoc3 (p q r : P3) : (p.add q).add r = p.add (q.add r) := by
  refine P3.ext ?_ ?_ ?_ <;> simp only [P3.add] <;> grind
theorem I3_app (p : P3) : I3.app p = p := by
  refine P3.ext ?_ ?_ ?_ <;> simp only [T3.app, I3, P3.dot] <;> grind
def applyF : Form → P3 → P3
  | .slide _ w, p => p.add w
  | .turn _ ax c s, p => (rotT ax c s).app p
  | _, p => p
def standsF (ws : List Form) (p : P3) : P3 := ws.foldl (fun p f => applyF f p) p
theorem standsF_snoc (ws : List Form) (f : Form) (p : P3) : standsF (ws ++ [f]) p = applyF f (standsF ws p) := by
  unfold standsF; rw [List.foldl_append]; rfl
/-- one line more outward -/
def stepF : Form → T3 × P3 → T3 × P3
  | .slide _ w, (t, s) => (t, (t.app w).add s)
  | .turn _ ax c sn, (t, s) => (t.mul (rotT ax c sn), s)
  | _, ts => ts
def placeF (ws : List Form) (ts : T3 × P3) : T3 × P3 := ws.foldr stepF ts
theorem placeF_snoc (ws : List Form) (f : Form) (ts : T3 × P3) : placeF (ws ++ [f]) ts = placeF ws (stepF f ts) := by
  unfold placeF; rw [List.foldr_append]; rfl
theorem step_app (f : Form) (t : T3) (s q : P3) : ((stepF f (t, s)).1.app q).add (stepF f (t, s)).2 = (t.app (applyF f q)).add s := by
  cases f with
  | slide j w => show (t.app q).add ((t.app w).add s) = (t.app (q.add w)).add s; rw [app_add, add_assoc3]
  | turn j ax c sn => show ((t.mul (rotT ax c sn)).app q).add s = (t.app ((rotT ax c sn).app q)).add s; rw [mul_app]
  | box _ _ => rfl
  | ball _ _ => rfl
  | half _ _ => rfl
  | two _ _ _ => rfl
theorem place_app : ∀ (n : Nat) (ws : List Form), ws.length = n → ∀ (t : T3) (s p : P3), ((placeF ws (t, s)).1.app p).add (placeF ws (t, s)).2 = (t.app (standsF ws p)).add s
  | 0, ws, h, t, s, p => by
    cases ws with
    | nil => rfl
    | cons _ _ => cases h
  | n + 1, ws, h, t, s, p => by
    obtain ⟨vs, f, rfl⟩ : ∃ vs f, ws = vs ++ [f] := by
      refine ⟨ws.dropLast, ws.getLast (by intro z; subst z; cases h), ?_⟩
      rw [List.dropLast_concat_getLast]
    rw [placeF_snoc, standsF_snoc]
    have ih := place_app n vs (by rw [List.length_append] at h; exact Nat.succ.inj h) (stepF f (t, s)).1 (stepF f (t, s)).2 p
    rw [← step_app]
    exact ih
def o3 : P3 := ⟨0, 0, 0⟩
def ex3 : P3 := ⟨1, 0, 0⟩
def ey3 : P3 := ⟨0, 1, 0⟩
def ez3 : P3 := ⟨0, 0, 1⟩
/-- the law's own leaf is the program's -/
theorem place_is (ws : List Form) (far : P3) :
    (placeF ws (I3, far)).2 = (standsF ws o3).add far ∧ ((placeF ws (I3, far)).1 = T3.tr ⟨(standsF ws ex3).sub (standsF ws o3), (standsF ws ey3).sub (standsF ws o3), (standsF ws ez3).sub (standsF ws o3)⟩) := by
  have h := fun p => place_app ws.length ws rfl I3 far p
  simp only [I3_app] at h
  generalize placeF ws (I3, far) = ts at h ⊢
  obtain ⟨⟨⟨a1, a2, a3⟩, ⟨b1, b2, b3⟩, ⟨c1, c2, c3⟩⟩, ⟨s1, s2, s3⟩⟩ := ts
  have h0 := h o3
  have h1 := h ex3
  have h2 := h ey3
  have h3 := h ez3
  generalize standsF ws o3 = u0 at *
  generalize standsF ws ex3 = u1 at *
  generalize standsF ws ey3 = u2 at *
  generalize standsF ws ez3 = u3 at *
  obtain ⟨f1, f2, f3⟩ := far
  cases u0; cases u1; cases u2; cases u3
  simp only [T3.app, P3.add, P3.dot, o3, ex3, ey3, ez3, P3.mk.injEq] at h0 h1 h2 h3
  constructor
  · simp only [P3.add, P3.mk.injEq]
    refine ⟨?_, ?_, ?_⟩ <;> grind
  · simp only [T3.tr, P3.sub, T3.mk.injEq, P3.mk.injEq]
    refine ⟨⟨?_, ?_, ?_⟩, ⟨?_, ?_, ?_⟩, ⟨?_, ?_, ?_⟩⟩ <;> grind
def walkL (bs : List Body) : Nat → Nat → List (Nat × List Form)
  | 0, _ => []
  | f + 1, i => match bs[i]? with
    | none => []
    | some b => match b.form with
      | .slide j w => (walkL bs f j).map fun x => (x.1, x.2 ++ [.slide j w])
      | .turn j ax c sn => (walkL bs f j).map fun x => (x.1, x.2 ++ [.turn j ax c sn])
      | .two _ j k => walkL bs f j ++ walkL bs f k
      | _ => [(i, [])]
def leafAt (bs : List Body) (t : T3) (s : P3) (x : Nat × List Form) : Leaf := match bs[x.1]? with
  | some b => ⟨b.name, b.form, (placeF x.2 (t, s)).1, (placeF x.2 (t, s)).2⟩
  | none => ⟨"", .two "" 0 0, (placeF x.2 (t, s)).1, (placeF x.2 (t, s)).2⟩
theorem leafAt_snoc (bs : List Body) (t : T3) (s : P3) (x : Nat × List Form) (f : Form) : leafAt bs t s (x.1, x.2 ++ [f]) = leafAt bs (stepF f (t, s)).1 (stepF f (t, s)).2 x := by
  unfold leafAt
  cases bs[x.1]? with
  | none => show (⟨_, _, _, _⟩ : Leaf) = ⟨_, _, _, _⟩; rw [placeF_snoc]
  | some b => show (⟨_, _, _, _⟩ : Leaf) = ⟨_, _, _, _⟩; rw [placeF_snoc]
theorem lay_walk (bs : List Body) : ∀ (f i : Nat) (t : T3) (s : P3), layL bs f i t s = (walkL bs f i).map (leafAt bs t s)
  | 0, _, _, _ => rfl
  | f + 1, i, t, s => by
    unfold layL walkL
    cases e : bs[i]? with
    | none => rfl
    | some b =>
      obtain ⟨nm, fm⟩ := b
      cases fm with
      | two wd j k =>
        show layL bs f j t s ++ layL bs f k t s = (walkL bs f j ++ walkL bs f k).map (leafAt bs t s)
        rw [List.map_append, lay_walk, lay_walk]
      | slide j w =>
        show layL bs f j t ((t.app w).add s) = ((walkL bs f j).map fun x => (x.1, x.2 ++ [.slide j w])).map (leafAt bs t s)
        rw [lay_walk, List.map_map]
        exact List.map_congr_left fun x _ => (leafAt_snoc bs t s x (.slide j w)).symm
      | turn j ax c sn =>
        show layL bs f j (t.mul (rotT ax c sn)) s = ((walkL bs f j).map fun x => (x.1, x.2 ++ [.turn j ax c sn])).map (leafAt bs t s)
        rw [lay_walk, List.map_map]
        exact List.map_congr_left fun x _ => (leafAt_snoc bs t s x (.turn j ax c sn)).symm
      | box lo hi => show [_] = [leafAt bs t s (i, [])]; unfold leafAt; rw [show bs[(i, ([] : List Form)).1]? = bs[i]? from rfl, e]; rfl
      | ball m r => show [_] = [leafAt bs t s (i, [])]; unfold leafAt; rw [show bs[(i, ([] : List Form)).1]? = bs[i]? from rfl, e]; rfl
      | half m r => show [_] = [leafAt bs t s (i, [])]; unfold leafAt; rw [show bs[(i, ([] : List Form)).1]? = bs[i]? from rfl, e]; rfl
def shD (n : Nat) : PyData → PyData
  | .int k => .int (k + n)
  | d => d
theorem layS_sh (bs : List Body) : ∀ (f i n : Nat), layS bs f i n = (layS bs f i 0).map (shD n)
  | 0, _, _ => rfl
  | f + 1, i, n => by
    unfold layS
    cases e : bs[i]? with
    | none => rfl
    | some b =>
      obtain ⟨nm, fm⟩ := b
      cases fm with
      | two wd j k =>
        show layS bs f j n ++ (layS bs f k (n + layN bs f j) ++ [.str wd]) = (layS bs f j 0 ++ (layS bs f k (0 + layN bs f j) ++ [PyData.str wd])).map (shD n)
        rw [List.map_append, List.map_append, layS_sh bs f j n, layS_sh bs f k (n + layN bs f j), layS_sh bs f k (0 + layN bs f j), List.map_map]
        refine congrArg _ (congrArg (· ++ _) (List.map_congr_left fun d _ => ?_))
        cases d <;> first | rfl | (show PyData.int _ = PyData.int _; congr 1; omega)
      | slide j w => exact layS_sh bs f j n
      | turn j ax c sn => exact layS_sh bs f j n
      | box _ _ => show [PyData.int (n : Int)] = [PyData.int (((0 : Nat) : Int) + n)]; rw [Int.natCast_zero, Int.zero_add]
      | ball _ _ => show [PyData.int (n : Int)] = [PyData.int (((0 : Nat) : Int) + n)]; rw [Int.natCast_zero, Int.zero_add]
      | half _ _ => show [PyData.int (n : Int)] = [PyData.int (((0 : Nat) : Int) + n)]; rw [Int.natCast_zero, Int.zero_add]
def WOk (bs : List Body) : Nat → Nat → Prop
  | 0, _ => False
  | f + 1, i => ∃ b, bs[i]? = some b ∧ match b.form with
      | .slide j _ => WOk bs f j
      | .turn j _ _ _ => WOk bs f j
      | .two wd j k => (wd = "join" ∨ wd = "cut" ∨ wd = "meet") ∧ WOk bs f j ∧ WOk bs f k
      | _ => True
theorem walkL_len (bs : List Body) : ∀ f i, (walkL bs f i).length = layN bs f i
  | 0, _ => rfl
  | f + 1, i => by
    unfold walkL layN
    cases bs[i]? with
    | none => rfl
    | some b =>
      obtain ⟨nm, fm⟩ := b
      cases fm with
      | two wd j k => show (walkL bs f j ++ walkL bs f k).length = _; rw [List.length_append, walkL_len, walkL_len]
      | slide j w => show ((walkL bs f j).map _).length = _; rw [List.length_map]; exact walkL_len bs f j
      | turn j ax c sn => show ((walkL bs f j).map _).length = _; rw [List.length_map]; exact walkL_len bs f j
      | box _ _ => rfl
      | ball _ _ => rfl
      | half _ _ => rfl
theorem walk_ways (bs : List Body) : ∀ f i x, x ∈ walkL bs f i → x.2.length ≤ f
  | 0, _, x, h => by cases h
  | f + 1, i, x, h => by
    unfold walkL at h
    cases e : bs[i]? with
    | none => rw [e] at h; cases h
    | some b =>
      rw [e] at h
      obtain ⟨nm, fm⟩ := b
      cases fm with
      | two wd j k =>
        rcases List.mem_append.mp h with h | h
        · exact Nat.le_succ_of_le (walk_ways bs f j x h)
        · exact Nat.le_succ_of_le (walk_ways bs f k x h)
      | slide j w =>
        obtain ⟨y, hy, rfl⟩ := List.mem_map.mp h
        show (y.2 ++ [_]).length ≤ f + 1
        rw [List.length_append]
        exact Nat.succ_le_succ (walk_ways bs f j y hy)
      | turn j ax c sn =>
        obtain ⟨y, hy, rfl⟩ := List.mem_map.mp h
        show (y.2 ++ [_]).length ≤ f + 1
        rw [List.length_append]
        exact Nat.succ_le_succ (walk_ways bs f j y hy)
      | box _ _ => cases List.mem_singleton.mp h; exact Nat.zero_le _
      | ball _ _ => cases List.mem_singleton.mp h; exact Nat.zero_le _
      | half _ _ => cases List.mem_singleton.mp h; exact Nat.zero_le _

/-! ### the law's own walk over the lines -/
section
variable {P : Program} {w : World} {K : PySem.W.Frag} {mg : Str → Option Value} {base : Heap}
def LV (K : PySem.W.Frag) (H : Hp) (v : V) (x : Nat × List Form) : Prop := ∃ a wa fs, v = .ref a ∧ H a = some (.tup [.int (x.1 : Int), .ref wa]) ∧ H wa = some (.lst fs) ∧ DTs K H fs (x.2.map eForm)
inductive LVs (K : PySem.W.Frag) (H : Hp) : List V → List (Nat × List Form) → Prop
  | nil : LVs K H [] []
  | cons {v : V} {vs : List V} {x : Nat × List Form} {xs : List (Nat × List Form)} : LV K H v x → LVs K H vs xs → LVs K H (v :: vs) (x :: xs)
theorem LV.same {H H' : Hp} {v : V} {x : Nat × List Form} (e : Same H H') (h : LV K H v x) : LV K H' v x := by
  obtain ⟨a, wa, fs, rfl, h1, h2, h3⟩ := h
  exact ⟨a, wa, fs, rfl, e _ _ h1, e _ _ h2, h3.tk (Same.tk e)⟩
theorem LVs.same {H H' : Hp} (e : Same H H') {vs : List V} {xs : List (Nat × List Form)} (h : LVs K H vs xs) : LVs K H' vs xs := by
  induction h with
  | nil => exact .nil
  | cons h _ ih => exact .cons (h.same e) ih
theorem LVs.append {H : Hp} {vs us : List V} {xs ys : List (Nat × List Form)} (h : LVs K H vs xs) (k : LVs K H us ys) : LVs K H (vs ++ us) (xs ++ ys) := by
  induction h with
  | nil => exact k
  | cons h _ ih => exact .cons h ih
theorem LVs.len {H : Hp} {vs : List V} {xs : List (Nat × List Form)} (h : LVs K H vs xs) : vs.length = xs.length := by
  induction h with
  | nil => rfl
  | cons h _ ih => rw [List.length_cons, List.length_cons, ih]
theorem LVs.get {H : Hp} {vs : List V} {xs : List (Nat × List Form)} (h : LVs K H vs xs) : ∀ {i : Nat} {v : V}, vs[i]? = some v → ∃ x, xs[i]? = some x ∧ LV K H v x := by
  induction h with
  | nil => intro i v e; cases e
  | cons h _ ih =>
    intro i v e
    cases i with
    | zero => cases e; exact ⟨_, rfl, h⟩
    | succ i =>
      obtain ⟨x, hx, k⟩ := ih e
      exact ⟨x, hx, k⟩
theorem LVs.snoc {H : Hp} {vs : List V} {xs : List (Nat × List Form)} {v : V} {x : Nat × List Form} (h : LVs K H vs xs) (k : LV K H v x) : LVs K H (vs ++ [v]) (xs ++ [x]) := h.append (.cons k .nil)
def WV (K : PySem.W.Frag) (H : Hp) (v : V) (wl : List (Nat × List Form)) (sh : List PyData) : Prop := ∃ p pl ps ls us, v = .ref p ∧ H p = some (.lst [.ref pl, .ref ps]) ∧ H pl = some (.lst ls) ∧ LVs K H ls wl ∧ H ps = some (.lst us) ∧ DTs K H us sh
theorem layS_kind (bs : List Body) : ∀ (f i n : Nat) (d : PyData), d ∈ layS bs f i n → (∃ z, d = .int z) ∨ (∃ z, d = .str z)
  | 0, _, _, d, h => by cases h
  | f + 1, i, n, d, h => by
    unfold layS at h
    cases e : bs[i]? with
    | none => rw [e] at h; cases h
    | some b =>
      rw [e] at h
      obtain ⟨nm, fm⟩ := b
      cases fm with
      | two wd j k =>
        rcases List.mem_append.mp h with h | h
        · exact layS_kind bs f j _ d h
        · rcases List.mem_append.mp h with h | h
          · exact layS_kind bs f k _ d h
          · exact .inr ⟨wd, List.mem_singleton.mp h⟩
      | slide j w => exact layS_kind bs f j _ d h
      | turn j ax c sn => exact layS_kind bs f j _ d h
      | box _ _ => exact .inl ⟨_, List.mem_singleton.mp h⟩
      | ball _ _ => exact .inl ⟨_, List.mem_singleton.mp h⟩
      | half _ _ => exact .inl ⟨_, List.mem_singleton.mp h⟩
/-- a heap without one address -/
def del (H : Hp) (D : Addr) : Hp := fun a => if a = D then none else H a
theorem del_ne {H : Hp} {D a : Addr} (h : a ≠ D) : del H D a = H a := if_neg h
theorem del_same {H : Hp} {D : Addr} : Same (del H D) H := fun a o e => by
  by_cases h : a = D
  · rw [show del H D a = none from if_pos h] at e; cases e
  · rw [del_ne h] at e; exact e
theorem same_del {H H' : Hp} {D : Addr} (S : Same H H') : Same (del H D) (del H' D) := fun a o e => by
  by_cases h : a = D
  · rw [show del H D a = none from if_pos h] at e; cases e
  · rw [del_ne h] at e ⊢; exact S _ _ e
theorem del_upd {H : Hp} {D : Addr} {o : HO} : del (upd H D o) D = del H D := by
  funext a
  by_cases h : a = D
  · rw [show del (upd H D o) D a = none from if_pos h, show del H D a = none from if_pos h]
  · rw [del_ne h, del_ne h, upd_ne h]
theorem del_tk {H : Hp} {D : Addr} {ys : List V} (h : H D = some (.lst ys)) : TK H (del H D) := fun a xs e => by
  rw [del_ne (ne_of e h fun z => by cases z)]; exact e
def sp_walk (K : PySem.W.Frag) (n : Nat) : Sp := fun vs H Q _ => ∃ BL i bvs bs, vs = [.ref BL, .int ((i : Nat) : Int)] ∧ H BL = some (.lst bvs) ∧ DTs K H bvs (bs.map eBody) ∧ WOk bs n i ∧ layN bs n i ≤ 1000 ∧ (layS bs n i 0).length ≤ 1000 ∧ n ≤ 1000 ∧
  ∀ H' v, Same H H' → WV K H' v (walkL bs n i) (layS bs n i 0) → Q v H'
theorem rx_lst {H : Hp} {L : Addr} {vs : List V} {ds : List PyData} {j : Nat} {d : PyData} {Q : VK} (hL : H L = some (.lst vs)) (h : DTs K H vs ds) (e : ds[j]? = some d) (q : ∀ y, DT K H y d → Q y H) : rIxL K (.ref L) (.int (j : Int)) H Q := by
  obtain ⟨v, hv, hd⟩ := h.get e
  exact ⟨L, vs, (j : Int), v, rfl, rfl, SqL.of hL, atI_nat hv, q v hd⟩
theorem strs_flat {a b c : Str} : ([V.str a, V.str b, V.str c].all flatV) = true := rfl
theorem okW__law_walk (T : Tx K mg w) : ∀ n, FnOk P w K mg base CX0 (n + 1) T.f__law_walk T.d__law_walk ["_law_bodies_here", "_law_number_here"] (sp_walk K n)
  | 0 => ⟨fun vs H Q E h => by
      obtain ⟨_, _, _, _, rfl, _⟩ := h
      rfl, fun A outer s H args us vs Q E _ _ _ _ h => by
      obtain ⟨_, _, _, _, rfl, _, _, h, _⟩ := h
      exact h.elim⟩
  | n + 1 => by
    have G__law_walk := okW__law_walk T n
    refine T.F__law_walk.ok sc__law_walk (fun vs H Q E h => ?_) (fun cdv A outer s H vs Q E hr h => ?_)
    · obtain ⟨_, _, _, _, rfl, _⟩ := h
      rfl
    obtain ⟨BL, i, bvs, bs, rfl, hBL, hbs, ⟨b, eb, ok⟩, hN, hS, hn, k⟩ := h
    refine ⟨_, (pss_cons (ps_set (i := 2) sc__law_walk.nd rfl (Or.inr rfl) (pe_ix ix_tup (pe_ix ix_list (pv 0) (pv 1) (fun _ _ => rfl)) pe_int (fun _ _ => rfl)))
      (pss_cons (ps_if (pt_cmpR op_in_seq (pe_ix ix_tup (pv 2) pe_int (fun _ _ => rfl)) (pe_tup (pa_cons pe_str (pa_cons pe_str (pa_cons pe_str pa_nil)))) (by rfl)) (pss_cons (ps_asg (pe_call G__law_walk (hr.mono (by first | decide | omega)) (by rfl) T.g__law_walk T.F__law_walk.kp T.b__law_walk .nil pass0 (pa_cons (pv 0) (pa_cons (pe_ix ix_tup (pv 2) pe_int (fun _ _ => rfl)) pa_nil))) (pg_unl (by rfl) (pgs_cons (pg_name (i := 3) sc__law_walk.nd rfl (Or.inl rfl)) (pgs_cons (pg_name (i := 4) sc__law_walk.nd rfl (Or.inl rfl)) pgs_nil))))
      (pss_cons (ps_asg (pe_call G__law_walk (hr.mono (by first | decide | omega)) (by rfl) T.g__law_walk T.F__law_walk.kp T.b__law_walk .nil pass0 (pa_cons (pv 0) (pa_cons (pe_ix ix_tup (pv 2) pe_int (fun _ _ => rfl)) pa_nil))) (pg_unl (by rfl) (pgs_cons (pg_name (i := 5) sc__law_walk.nd rfl (Or.inl rfl)) (pgs_cons (pg_name (i := 6) sc__law_walk.nd rfl (Or.inl rfl)) pgs_nil))))
      (pss_cons (ps_for PassesOwn.never rfl (pi_list (pv 6)) (pg_name (i := 7) sc__law_walk.nd rfl (Or.inl rfl)) (pss_one (ps_if (pt_val (pe_callB call_isi (by rfl) T.m_isinstance (by decide +kernel) (pa_cons (pv 7) (pa_cons (pe_bltn (v := .ty "int") (by rfl) T.m_int (by decide +kernel) rfl) pa_nil)))) (pss_one (ps_set (i := 4) sc__law_walk.nd rfl (Or.inl rfl) (pe_op op_cat (pv 4) (pe_lst (pa_cons (pe_op op_add (pv 7) (pe_callB call_len_seq (by rfl) T.m_len (by decide +kernel) (pa_cons (pv 3) pa_nil))) pa_nil))))) (pss_one (ps_set (i := 4) sc__law_walk.nd rfl (Or.inl rfl) (pe_op op_cat (pv 4) (pe_lst (pa_cons (pv 7) pa_nil))))))))
      (pss_one (ps_ret (pe_lst (pa_cons (pe_op op_cat (pv 3) (pv 5)) (pa_cons (pe_op op_cat (pv 4) (pe_lst (pa_cons (pe_ix ix_tup (pv 2) pe_int (fun _ _ => rfl)) pa_nil))) pa_nil)))))))) pss_nil)
      (pss_cons (ps_if (pt_cmpR op_in_seq (pe_ix ix_tup (pv 2) pe_int (fun _ _ => rfl)) (pe_tup (pa_cons pe_str (pa_cons pe_str pa_nil))) (by rfl)) (pss_cons (ps_asg (pe_call G__law_walk (hr.mono (by first | decide | omega)) (by rfl) T.g__law_walk T.F__law_walk.kp T.b__law_walk .nil pass0 (pa_cons (pv 0) (pa_cons (pe_ix ix_tup (pv 2) pe_int (fun _ _ => rfl)) pa_nil))) (pg_unl (by rfl) (pgs_cons (pg_name (i := 3) sc__law_walk.nd rfl (Or.inl rfl)) (pgs_cons (pg_name (i := 4) sc__law_walk.nd rfl (Or.inl rfl)) pgs_nil))))
      (pss_one (ps_ret (pe_lst (pa_cons (pe_lc (own := [("_law_leaf_here", 8), ("_law_ways", 9)]) (g := gTup K 2 (gCons (gName 8) (gCons (gName 9) gNil))) (by rfl) sc__law_walk.nd (pi_list (pv 3)) (blkOk_by (own := [("_law_leaf_here", 8), ("_law_ways", 9)]) (N := nm__law_walk) (sc := defScope s__law_walk) (by decide +kernel)) (fun _ _ _ _ _ => (pg_tupC (K := K) rfl (by rfl) (pgs_cons (pg_name (i := 8) sc__law_walk.nd rfl (Or.inl rfl)) (pgs_cons (pg_name (i := 9) sc__law_walk.nd rfl (Or.inl rfl)) pgs_nil)))) (fun _ _ _ _ _ => pts_nil) (fun _ _ _ _ _ => (pe_tup (pa_cons (pv 8) (pa_cons (pe_op op_cat (pv 9) (pe_lst (pa_cons (pv 2) pa_nil))) pa_nil))))) (pa_cons (pv 4) pa_nil)))))) pss_nil)
      (pss_one (ps_ret (pe_lst (pa_cons (pe_lst (pa_cons (pe_tup (pa_cons (pv 1) (pa_cons (pe_lst pa_nil) pa_nil))) pa_nil)) (pa_cons (pe_lst (pa_cons pe_int pa_nil)) pa_nil)))))))), ?_⟩
    rw [show L2.start nm__law_walk [.ref BL, .int ((i : Nat) : Int)] = [some (.ref BL), some (.int ((i : Nat) : Int)), none, none, none, none, none, none, none, none] from rfl]
    refine ⟨_, rfl, _, rfl, rx_lst hBL hbs (by rw [List.getElem?_map, eb]; rfl) fun y hy => rd_c (rx_dt (j := 1) hy rfl fun vf hf => ?_)⟩
    dsimp only [gName, List.set_cons_succ, List.set_cons_zero]
    obtain ⟨nm, fm⟩ := b
    have fin : ∀ H', Same H H' → ∀ (p pl ps : Addr) (ls us : List V), H' p = some (.lst [.ref pl, .ref ps]) → H' pl = some (.lst ls) → LVs K H' ls (walkL bs (n + 1) i) → H' ps = some (.lst us) → DTs K H' us (layS bs (n + 1) i 0) → Q (.ref p) H' := fun H' S p pl ps ls us h1 h2 h3 h4 h5 => k H' _ S ⟨p, pl, ps, ls, us, rfl, h1, h2, h3, h4, h5⟩
    have wd : ∀ {x : Str} {ds : List PyData} {H' : Hp} {Q : VK}, DT K H' vf (.tuple (.str x :: ds)) → Q (.str x) H' → rIxT K vf (.int 0) H' Q := fun h q => rx_dt (j := 0) h rfl fun y hy => by rw [hy.str_inv]; exact q
    -- a leaf's own
    have leaf : ∀ H', Same H H' → walkL bs (n + 1) i = [(i, [])] → layS bs (n + 1) i 0 = [.int 0] → tRet (tLst (tCons (tLst (tCons (tTup (tCons (tVar 1) (tCons (tLst tNil) tNil))) tNil)) (tCons (tLst (tCons (tC (.int 0)) tNil)) tNil))) { nx := fun _ H' => Q .non H', rt := Q } [some (.ref BL), some (.int ((i : Nat) : Int)), some vf, none, none, none, none, none, none, none] H' := fun H' S e1 e2 => by
      refine ⟨_, rfl, sz_n (by decide : 0 ≤ 1000), fun w1 h1 => ⟨sz_n (by decide : 2 ≤ 1000), fun a2 h2 => ⟨sz_n (by decide : 1 ≤ 1000), fun a3 h3 => ⟨sz_n (by decide : 1 ≤ 1000), fun a4 h4 => ⟨sz_n (by decide : 2 ≤ 1000), fun a5 h5 => ?_⟩⟩⟩⟩⟩
      have g1 : upd H' w1 (.lst []) w1 = some (.lst []) := upd_same
      have S1 := same_upd h1 (o := .lst [])
      generalize upd H' w1 (.lst []) = H1 at *
      have g2 : upd H1 a2 (.tup [.int ((i : Nat) : Int), .ref w1]) a2 = some (.tup [.int ((i : Nat) : Int), .ref w1]) := upd_same
      have S2 := same_upd h2 (o := .tup [.int ((i : Nat) : Int), .ref w1])
      generalize upd H1 a2 (.tup [.int ((i : Nat) : Int), .ref w1]) = H2 at *
      have g3 : upd H2 a3 (.lst [.ref a2]) a3 = some (.lst [.ref a2]) := upd_same
      have S3 := same_upd h3 (o := .lst [.ref a2])
      generalize upd H2 a3 (.lst [.ref a2]) = H3 at *
      have g4 : upd H3 a4 (.lst [.int 0]) a4 = some (.lst [.int 0]) := upd_same
      have S4 := same_upd h4 (o := .lst [.int 0])
      generalize upd H3 a4 (.lst [.int 0]) = H4 at *
      have S5 := same_upd h5 (o := .lst [.ref a3, .ref a4])
      refine fin _ (S.trans (S1.trans (S2.trans (S3.trans (S4.trans S5))))) a5 a3 a4 [.ref a2] [.int 0] upd_same (S5 _ _ (S4 _ _ g3)) ?_ (S5 _ _ g4) ?_
      · rw [e1]
        exact .cons ⟨a2, w1, [], rfl, S5 _ _ (S4 _ _ (S3 _ _ g2)), S5 _ _ (S4 _ _ (S3 _ _ (S2 _ _ g1))), .nil⟩ .nil
      · rw [e2]
        exact .cons (.int 0) .nil
    cases fm with
    | slide j wv =>
      have eW : walkL bs (n + 1) i = (walkL bs n j).map fun x => (x.1, x.2 ++ [.slide j wv]) := by simp only [walkL, eb]
      have eS : layS bs (n + 1) i 0 = layS bs n j 0 := by simp only [layS, eb]
      have hN : layN bs n j ≤ 1000 := by unfold layN at hN; rw [eb] at hN; exact hN
      rw [eS] at hS
      refine ⟨_, rfl, rd_c (wd hf ?_)⟩
      refine ⟨sz_n (by decide : 3 ≤ 1000), fun p1 hp1 => ⟨p1, _, rfl, .inr (SqT.of upd_same), rfl, rfl, _, rfl, ite_no (by decide +kernel) ?_⟩⟩
      have hf := hf.same (same_upd hp1 (o := .tup [.str "join", .str "cut", .str "meet"]))
      refine ⟨_, rfl, rd_c (wd hf ?_)⟩
      refine ⟨sz_n (by decide : 2 ≤ 1000), fun p2 hp2 => ⟨p2, _, rfl, .inr (SqT.of upd_same), rfl, rfl, _, rfl, ite_yes (by decide +kernel) ?_⟩⟩
      have hf := hf.same (same_upd hp2 (o := .tup [.str "slide", .str "turn"]))
      have S2 := (same_upd hp1 (o := .tup [.str "join", .str "cut", .str "meet"])).trans (same_upd hp2 (o := .tup [.str "slide", .str "turn"]))
      generalize upd (upd H p1 (.tup [.str "join", .str "cut", .str "meet"])) p2 (.tup [.str "slide", .str "turn"]) = H2 at hf S2 ⊢
      refine ⟨_, rfl, ⟨_, rfl, rd_c (rx_dt (j := 1) hf rfl fun y hy => ?_)⟩⟩
      cases hy.int_inv
      refine ⟨BL, j, bvs, bs, rfl, S2 _ _ hBL, hbs.tk (Same.tk S2), ok, hN, hS, by omega, fun H3 v3 S3 W3 => ?_⟩
      obtain ⟨p, pl, ps, ls, us, rfl, g1, g2, g3, g4, g5⟩ := W3
      refine ⟨p, _, rfl, SqL.of g1, rfl, _, _, rfl, _, _, rfl, rfl, ?_⟩
      dsimp only [gName, List.set_cons_succ, List.set_cons_zero]
      have hf3 := hf.same S3
      refine ⟨_, rfl, pl, rfl, ⟨_, SqL.of g2⟩, fun D nD => ?_⟩
      refine lc_list (K := K) (a := pl) (xs := ls) (fun m H' => Same H3 H' ∧ ∃ ys, H' D = some (.lst ys) ∧ LVs K (del H' D) ys (((walkL bs n j).take m).map fun x => (x.1, x.2 ++ [.slide j wv])) ∧ ys.length = m) ⟨same_upd nD, [], upd_same, .nil, rfl⟩ (fun m H' _ p => SqL.of (p.1 _ _ g2)) (fun m x H' hx p => ?_) (fun H' p => ?_)
      · obtain ⟨S, ys, hD, hys, hyl⟩ := p
        obtain ⟨z, ez, a, wa, fs, rfl, q1, q2, q3⟩ := g3.get hx
        have hm := (List.getElem?_eq_some_iff.mp hx).1
        have hml : ls.length ≤ 1000 := by rw [g3.len, walkL_len]; exact hN
        have q1 := S _ _ q1
        have q2 := S _ _ q2
        have q3 := q3.tk (Same.tk S)
        have hwz : z.2.length ≤ n := walk_ways bs n j z (List.mem_of_getElem? ez)
        refine ⟨a, _, rfl, SqT.of q1, rfl, _, _, rfl, _, _, rfl, rfl, rfl, ?_⟩
        refine ⟨_, rfl, _, rfl, _, rfl, sz_n (by decide : 1 ≤ 1000), fun r1 hr1 => ?_⟩
        refine ⟨wa, r1, fs, _, rfl, rfl, same_upd hr1 _ _ q2, upd_same, sz_n (by rw [q3.len, List.length_map]; show z.2.length + 1 ≤ 1000; omega), fun r2 hr2 => ⟨sz_n (by decide : 2 ≤ 1000), fun r3 hr3 => ?_⟩⟩
        have nr2 : r2 ≠ D := fun e => by rw [e, same_upd hr1 _ _ hD] at hr2; cases hr2
        have S1 := same_upd hr1 (o := .lst [vf])
        generalize upd H' r1 (.lst [vf]) = H4 at *
        have q5 : upd H4 r2 (.lst (fs ++ [vf])) r2 = some (.lst (fs ++ [vf])) := upd_same
        have S4 := S1.trans (same_upd hr2 (o := .lst (fs ++ [vf])))
        generalize upd H4 r2 (.lst (fs ++ [vf])) = H5 at *
        have nr3 : r3 ≠ D := fun e => by rw [e, S4 _ _ hD] at hr3; cases hr3
        have q6 : upd H5 r3 (.tup [.int ((z.1 : Nat) : Int), .ref r2]) r3 = some (.tup [.int ((z.1 : Nat) : Int), .ref r2]) := upd_same
        have S5 := S4.trans (same_upd hr3 (o := .tup [.int ((z.1 : Nat) : Int), .ref r2]))
        have q5 := same_upd hr3 (o := .tup [.int ((z.1 : Nat) : Int), .ref r2]) _ _ q5
        generalize upd H5 r3 (.tup [.int ((z.1 : Nat) : Int), .ref r2]) = H6 at *
        have hD6 := S5 _ _ hD
        refine ⟨ys, hD6, small1000 (by omega), fun b o ho => ?_, _, upd_same, ?_, by rw [List.length_append, hyl]; rfl⟩
        · rw [upd_ne (ne_of_none ho nD)]; exact S5 _ _ (S _ _ ho)
        · rw [del_upd]
          have et : (walkL bs n j).take (m + 1) = (walkL bs n j).take m ++ [z] := by
            have h1 := (List.getElem?_eq_some_iff.mp ez)
            rw [List.take_succ_eq_append_getElem h1.1, h1.2]
          rw [et, List.map_append]
          refine (hys.same (same_del S5)).snoc ⟨r3, r2, fs ++ [vf], rfl, by rw [del_ne nr3]; exact q6, by rw [del_ne nr2]; exact q5, ?_⟩
          show DTs K (del H6 D) (fs ++ [vf]) ((z.2 ++ [Form.slide j wv]).map eForm)
          rw [List.map_append]
          exact ((q3.tk (Same.tk S5)).tk (del_tk hD6)).append (.cons (((hf3.same S).same S5).tk (del_tk hD6)) .nil)
      · obtain ⟨S, ys, hD, hys, hyl⟩ := p
        rw [g3.len, List.take_length, ← eW] at hys
        refine ⟨_, rfl, sz_n (by decide : 2 ≤ 1000), fun r hr' => ?_⟩
        have S5 := same_upd hr' (o := .lst [.ref D, .ref ps])
        refine fin _ (S2.trans (S3.trans (S.trans S5))) r D ps ys us upd_same (S5 _ _ hD) (hys.same (del_same.trans S5)) (S5 _ _ (S _ _ g4)) ?_
        rw [eS]
        exact (g5.tk (Same.tk S)).tk (Same.tk S5)
    | turn j ax c sn =>
      have eW : walkL bs (n + 1) i = (walkL bs n j).map fun x => (x.1, x.2 ++ [.turn j ax c sn]) := by simp only [walkL, eb]
      have eS : layS bs (n + 1) i 0 = layS bs n j 0 := by simp only [layS, eb]
      have hN : layN bs n j ≤ 1000 := by unfold layN at hN; rw [eb] at hN; exact hN
      rw [eS] at hS
      refine ⟨_, rfl, rd_c (wd hf ?_)⟩
      refine ⟨sz_n (by decide : 3 ≤ 1000), fun p1 hp1 => ⟨p1, _, rfl, .inr (SqT.of upd_same), rfl, rfl, _, rfl, ite_no (by decide +kernel) ?_⟩⟩
      have hf := hf.same (same_upd hp1 (o := .tup [.str "join", .str "cut", .str "meet"]))
      refine ⟨_, rfl, rd_c (wd hf ?_)⟩
      refine ⟨sz_n (by decide : 2 ≤ 1000), fun p2 hp2 => ⟨p2, _, rfl, .inr (SqT.of upd_same), rfl, rfl, _, rfl, ite_yes (by decide +kernel) ?_⟩⟩
      have hf := hf.same (same_upd hp2 (o := .tup [.str "slide", .str "turn"]))
      have S2 := (same_upd hp1 (o := .tup [.str "join", .str "cut", .str "meet"])).trans (same_upd hp2 (o := .tup [.str "slide", .str "turn"]))
      generalize upd (upd H p1 (.tup [.str "join", .str "cut", .str "meet"])) p2 (.tup [.str "slide", .str "turn"]) = H2 at hf S2 ⊢
      refine ⟨_, rfl, ⟨_, rfl, rd_c (rx_dt (j := 1) hf rfl fun y hy => ?_)⟩⟩
      cases hy.int_inv
      refine ⟨BL, j, bvs, bs, rfl, S2 _ _ hBL, hbs.tk (Same.tk S2), ok, hN, hS, by omega, fun H3 v3 S3 W3 => ?_⟩
      obtain ⟨p, pl, ps, ls, us, rfl, g1, g2, g3, g4, g5⟩ := W3
      refine ⟨p, _, rfl, SqL.of g1, rfl, _, _, rfl, _, _, rfl, rfl, ?_⟩
      dsimp only [gName, List.set_cons_succ, List.set_cons_zero]
      have hf3 := hf.same S3
      refine ⟨_, rfl, pl, rfl, ⟨_, SqL.of g2⟩, fun D nD => ?_⟩
      refine lc_list (K := K) (a := pl) (xs := ls) (fun m H' => Same H3 H' ∧ ∃ ys, H' D = some (.lst ys) ∧ LVs K (del H' D) ys (((walkL bs n j).take m).map fun x => (x.1, x.2 ++ [.turn j ax c sn])) ∧ ys.length = m) ⟨same_upd nD, [], upd_same, .nil, rfl⟩ (fun m H' _ p => SqL.of (p.1 _ _ g2)) (fun m x H' hx p => ?_) (fun H' p => ?_)
      · obtain ⟨S, ys, hD, hys, hyl⟩ := p
        obtain ⟨z, ez, a, wa, fs, rfl, q1, q2, q3⟩ := g3.get hx
        have hm := (List.getElem?_eq_some_iff.mp hx).1
        have hml : ls.length ≤ 1000 := by rw [g3.len, walkL_len]; exact hN
        have q1 := S _ _ q1
        have q2 := S _ _ q2
        have q3 := q3.tk (Same.tk S)
        have hwz : z.2.length ≤ n := walk_ways bs n j z (List.mem_of_getElem? ez)
        refine ⟨a, _, rfl, SqT.of q1, rfl, _, _, rfl, _, _, rfl, rfl, rfl, ?_⟩
        refine ⟨_, rfl, _, rfl, _, rfl, sz_n (by decide : 1 ≤ 1000), fun r1 hr1 => ?_⟩
        refine ⟨wa, r1, fs, _, rfl, rfl, same_upd hr1 _ _ q2, upd_same, sz_n (by rw [q3.len, List.length_map]; show z.2.length + 1 ≤ 1000; omega), fun r2 hr2 => ⟨sz_n (by decide : 2 ≤ 1000), fun r3 hr3 => ?_⟩⟩
        have nr2 : r2 ≠ D := fun e => by rw [e, same_upd hr1 _ _ hD] at hr2; cases hr2
        have S1 := same_upd hr1 (o := .lst [vf])
        generalize upd H' r1 (.lst [vf]) = H4 at *
        have q5 : upd H4 r2 (.lst (fs ++ [vf])) r2 = some (.lst (fs ++ [vf])) := upd_same
        have S4 := S1.trans (same_upd hr2 (o := .lst (fs ++ [vf])))
        generalize upd H4 r2 (.lst (fs ++ [vf])) = H5 at *
        have nr3 : r3 ≠ D := fun e => by rw [e, S4 _ _ hD] at hr3; cases hr3
        have q6 : upd H5 r3 (.tup [.int ((z.1 : Nat) : Int), .ref r2]) r3 = some (.tup [.int ((z.1 : Nat) : Int), .ref r2]) := upd_same
        have S5 := S4.trans (same_upd hr3 (o := .tup [.int ((z.1 : Nat) : Int), .ref r2]))
        have q5 := same_upd hr3 (o := .tup [.int ((z.1 : Nat) : Int), .ref r2]) _ _ q5
        generalize upd H5 r3 (.tup [.int ((z.1 : Nat) : Int), .ref r2]) = H6 at *
        have hD6 := S5 _ _ hD
        refine ⟨ys, hD6, small1000 (by omega), fun b o ho => ?_, _, upd_same, ?_, by rw [List.length_append, hyl]; rfl⟩
        · rw [upd_ne (ne_of_none ho nD)]; exact S5 _ _ (S _ _ ho)
        · rw [del_upd]
          have et : (walkL bs n j).take (m + 1) = (walkL bs n j).take m ++ [z] := by
            have h1 := (List.getElem?_eq_some_iff.mp ez)
            rw [List.take_succ_eq_append_getElem h1.1, h1.2]
          rw [et, List.map_append]
          refine (hys.same (same_del S5)).snoc ⟨r3, r2, fs ++ [vf], rfl, by rw [del_ne nr3]; exact q6, by rw [del_ne nr2]; exact q5, ?_⟩
          show DTs K (del H6 D) (fs ++ [vf]) ((z.2 ++ [Form.turn j ax c sn]).map eForm)
          rw [List.map_append]
          exact ((q3.tk (Same.tk S5)).tk (del_tk hD6)).append (.cons (((hf3.same S).same S5).tk (del_tk hD6)) .nil)
      · obtain ⟨S, ys, hD, hys, hyl⟩ := p
        rw [g3.len, List.take_length, ← eW] at hys
        refine ⟨_, rfl, sz_n (by decide : 2 ≤ 1000), fun r hr' => ?_⟩
        have S5 := same_upd hr' (o := .lst [.ref D, .ref ps])
        refine fin _ (S2.trans (S3.trans (S.trans S5))) r D ps ys us upd_same (S5 _ _ hD) (hys.same (del_same.trans S5)) (S5 _ _ (S _ _ g4)) ?_
        rw [eS]
        exact (g5.tk (Same.tk S)).tk (Same.tk S5)
    | two wv j l =>
      obtain ⟨hw, ok1, ok2⟩ := ok
      have eW : walkL bs (n + 1) i = walkL bs n j ++ walkL bs n l := by simp only [walkL, eb]
      have eS : layS bs (n + 1) i 0 = layS bs n j 0 ++ (layS bs n l (0 + layN bs n j) ++ [.str wv]) := by simp only [layS, eb]
      have hN : layN bs n j + layN bs n l ≤ 1000 := by unfold layN at hN; rw [eb] at hN; exact hN
      rw [layS_sh bs n l (0 + layN bs n j), Nat.zero_add] at eS
      rw [eS, List.length_append, List.length_append, List.length_map] at hS
      have hS : (layS bs n j 0).length + ((layS bs n l 0).length + 1) ≤ 1000 := hS
      refine ⟨_, rfl, rd_c (wd hf ?_)⟩
      refine ⟨sz_n (by decide : 3 ≤ 1000), fun p1 hp1 => ⟨p1, _, rfl, .inr (SqT.of upd_same), rfl, rfl, _, rfl, ite_yes (by rcases hw with rfl | rfl | rfl <;> decide +kernel) ?_⟩⟩
      have hf := hf.same (same_upd hp1 (o := .tup [.str "join", .str "cut", .str "meet"]))
      have S1 := same_upd hp1 (o := .tup [.str "join", .str "cut", .str "meet"])
      generalize upd H p1 (.tup [.str "join", .str "cut", .str "meet"]) = H1 at hf S1 ⊢
      refine ⟨_, rfl, ⟨_, rfl, rd_c (rx_dt (j := 1) hf rfl fun y hy => ?_)⟩⟩
      cases hy.int_inv
      refine ⟨BL, j, bvs, bs, rfl, S1 _ _ hBL, hbs.tk (Same.tk S1), ok1, by omega, by omega, by omega, fun H2 v2 S2 W2 => ?_⟩
      obtain ⟨pa, pl, ps, ls, us, rfl, g1, g2, g3, g4, g5⟩ := W2
      refine ⟨pa, _, rfl, SqL.of g1, rfl, _, _, rfl, _, _, rfl, rfl, ?_⟩
      dsimp only [gName, List.set_cons_succ, List.set_cons_zero]
      have S12 := S1.trans S2
      have hf := hf.same S2
      refine ⟨_, rfl, ⟨_, rfl, rd_c (rx_dt (j := 2) hf rfl fun y hy => ?_)⟩⟩
      cases hy.int_inv
      refine ⟨BL, l, bvs, bs, rfl, S12 _ _ hBL, hbs.tk (Same.tk S12), ok2, by omega, by omega, by omega, fun H3 v3 S3 W3 => ?_⟩
      obtain ⟨pb, ql, qs, ms, ts, rfl, e1, e2, e3, e4, e5⟩ := W3
      refine ⟨pb, _, rfl, SqL.of e1, rfl, _, _, rfl, _, _, rfl, rfl, ?_⟩
      dsimp only [gName, List.set_cons_succ, List.set_cons_zero]
      have S13 := S12.trans S3
      have hf := hf.same S3
      have g2 := S3 _ _ g2
      have g4 := S3 _ _ g4
      have g3 := g3.same S3
      have g5 := g5.tk (Same.tk S3)
      have lls : ls.length = layN bs n j := by rw [g3.len, walkL_len]
      have lus := g5.len
      have lts := e5.len
      refine ⟨_, rfl, qs, rfl, ⟨_, SqL.of e4⟩, for_list (K := K) (a := qs) (xs := ts) (fun m σ H' => ∃ q ys v7, σ = [some (.ref BL), some (.int ((i : Nat) : Int)), some vf, some (.ref pl), some (.ref q), some (.ref ql), some (.ref qs), v7, none, none] ∧ Same H3 H' ∧ H' q = some (.lst (us ++ ys)) ∧ DTs K H' ys (((layS bs n l 0).take m).map (shD (layN bs n j))) ∧ ys.length = m)
        ⟨ps, [], _, rfl, Same.refl _, by rw [List.append_nil]; exact g4, .nil, rfl⟩ (fun m σ H' _ p => ?_) (fun m x σ H' hx p => ?_) (fun σ H' p => ?_)⟩
      · obtain ⟨q, ys, v7, _, S, _⟩ := p
        exact SqL.of (S _ _ e4)
      · obtain ⟨q, ys, v7, rfl, S, hq, hys, hyl⟩ := p
        obtain ⟨d, hd, zx⟩ := e5.get' hx
        have hm := (List.getElem?_eq_some_iff.mp hx).1
        have et : (layS bs n l 0).take (m + 1) = (layS bs n l 0).take m ++ [d] := by
          have h1 := (List.getElem?_eq_some_iff.mp hd)
          rw [List.take_succ_eq_append_getElem h1.1, h1.2]
        dsimp only [gName, List.set_cons_succ, List.set_cons_zero]
        have hdk : (∃ z, d = .int z ∧ x = .int z) ∨ (∃ z, d = .str z ∧ x = .str z) := by
          have := layS_kind bs n l 0 d (List.mem_of_getElem? hd)
          rcases this with ⟨z, rfl⟩ | ⟨z, rfl⟩
          · exact .inl ⟨z, rfl, zx.int_inv⟩
          · exact .inr ⟨z, rfl, zx.str_inv⟩
        rcases hdk with ⟨z, rfl, rfl⟩ | ⟨z, rfl, rfl⟩
        · refine ⟨_, rfl, _, _, _, _, true, rfl, .ty _, .base (.int z), kit_ty (by decide +kernel), true, rfl, iteT ?_⟩
          refine ⟨_, rfl, _, rfl, _, rfl, pl, _, rfl, .inl (SqL.of (S _ _ g2)), _, _, rfl, rfl, sz_n (by decide : 1 ≤ 1000), fun r1 hr1 => ?_⟩
          refine ⟨q, r1, us ++ ys, _, rfl, rfl, same_upd hr1 _ _ hq, upd_same, sz_n (by rw [List.length_append]; show us.length + ys.length + 1 ≤ 1000; omega), fun r2 hr2 => ?_⟩
          dsimp only [gName, List.set_cons_succ, List.set_cons_zero]
          have S6 := (same_upd hr1 (o := .lst [.int (z + (ls.length : Int))])).trans (same_upd hr2 (o := .lst (us ++ ys ++ [.int (z + (ls.length : Int))])))
          refine ⟨r2, ys ++ [.int (z + (ls.length : Int))], _, rfl, S.trans S6, by rw [upd_same, List.append_assoc], ?_, by rw [List.length_append, hyl]; rfl⟩
          rw [et, List.map_append]
          refine (hys.tk (Same.tk S6)).append (.cons ?_ .nil)
          show DT K _ (.int (z + (ls.length : Int))) (.int (z + (layN bs n j : Int)))
          rw [lls]
          exact .int _
        · refine ⟨_, rfl, _, _, _, _, false, rfl, .ty _, .base (.str z), kit_ty (by decide +kernel), false, rfl, iteF ?_⟩
          refine ⟨_, rfl, _, rfl, sz_n (by decide : 1 ≤ 1000), fun r1 hr1 => ?_⟩
          refine ⟨q, r1, us ++ ys, _, rfl, rfl, same_upd hr1 _ _ hq, upd_same, sz_n (by rw [List.length_append]; show us.length + ys.length + 1 ≤ 1000; omega), fun r2 hr2 => ?_⟩
          dsimp only [gName, List.set_cons_succ, List.set_cons_zero]
          have S6 := (same_upd hr1 (o := .lst [.str z])).trans (same_upd hr2 (o := .lst (us ++ ys ++ [.str z])))
          refine ⟨r2, ys ++ [.str z], _, rfl, S.trans S6, by rw [upd_same, List.append_assoc], ?_, by rw [List.length_append, hyl]; rfl⟩
          rw [et, List.map_append]
          exact (hys.tk (Same.tk S6)).append (.cons (.str z) .nil)
      · obtain ⟨q, ys, v7, rfl, S, hq, hys, hyl⟩ := p
        rw [lts, List.take_length] at hys
        dsimp only [gName, List.set_cons_succ, List.set_cons_zero]
        have g2 := S _ _ g2
        have e2 := S _ _ e2
        have lms : ms.length = layN bs n l := by rw [e3.len, walkL_len]
        refine ⟨_, rfl, _, rfl, pl, ql, ls, ms, rfl, rfl, g2, e2, sz_n (by omega), fun r1 hr1 => ?_⟩
        have S6 := same_upd hr1 (o := .lst (ls ++ ms))
        have c1 : upd H' r1 (.lst (ls ++ ms)) r1 = some (.lst (ls ++ ms)) := upd_same
        generalize upd H' r1 (.lst (ls ++ ms)) = H6 at *
        refine ⟨_, rfl, _, rfl, rd_c (wd ((hf.same S).same S6) ?_)⟩
        refine ⟨sz_n (by decide : 1 ≤ 1000), fun r2 hr2 => ?_⟩
        have S7 := S6.trans (same_upd hr2 (o := .lst [.str wv]))
        have c1 := same_upd hr2 (o := .lst [.str wv]) _ _ c1
        have c2 : upd H6 r2 (.lst [.str wv]) r2 = some (.lst [.str wv]) := upd_same
        generalize upd H6 r2 (.lst [.str wv]) = H7 at *
        refine ⟨q, r2, us ++ ys, _, rfl, rfl, S7 _ _ hq, c2, sz_n (by rw [List.length_append]; show us.length + ys.length + 1 ≤ 1000; omega), fun r3 hr3 => ?_⟩
        have S8 := S7.trans (same_upd hr3 (o := .lst (us ++ ys ++ [.str wv])))
        have c1 := same_upd hr3 (o := .lst (us ++ ys ++ [.str wv])) _ _ c1
        have c3 : upd H7 r3 (.lst (us ++ ys ++ [.str wv])) r3 = some (.lst (us ++ ys ++ [.str wv])) := upd_same
        generalize upd H7 r3 (.lst (us ++ ys ++ [.str wv])) = H8 at *
        refine ⟨sz_n (by decide : 2 ≤ 1000), fun r4 hr4 => ?_⟩
        have S9 := S8.trans (same_upd hr4 (o := .lst [.ref r1, .ref r3]))
        refine fin _ (S13.trans (S.trans S9)) r4 r1 r3 (ls ++ ms) (us ++ ys ++ [.str wv]) upd_same (same_upd hr4 _ _ c1) ?_ (same_upd hr4 _ _ c3) ?_
        · rw [eW]
          exact ((g3.same S).same S9).append ((e3.same S).same S9)
        · rw [eS, List.append_assoc]
          exact ((g5.tk (Same.tk S)).tk (Same.tk S9)).append ((hys.tk (Same.tk S9)).append (.cons (.str wv) .nil))
    | box lo hi =>
      refine ⟨_, rfl, rd_c (wd hf ?_)⟩
      refine ⟨sz_n (by decide : 3 ≤ 1000), fun p1 hp1 => ⟨p1, _, rfl, .inr (SqT.of upd_same), rfl, rfl, _, rfl, ite_no (by decide +kernel) ?_⟩⟩
      have hf := hf.same (same_upd hp1 (o := .tup [.str "join", .str "cut", .str "meet"]))
      refine ⟨_, rfl, rd_c (wd hf ?_)⟩
      refine ⟨sz_n (by decide : 2 ≤ 1000), fun p2 hp2 => ⟨p2, _, rfl, .inr (SqT.of upd_same), rfl, rfl, _, rfl, ite_no (by decide +kernel) ?_⟩⟩
      exact leaf _ ((same_upd hp1).trans (same_upd hp2)) (by unfold walkL; rw [eb]) (by unfold layS; rw [eb]; rfl)
    | ball m r0 =>
      refine ⟨_, rfl, rd_c (wd hf ?_)⟩
      refine ⟨sz_n (by decide : 3 ≤ 1000), fun p1 hp1 => ⟨p1, _, rfl, .inr (SqT.of upd_same), rfl, rfl, _, rfl, ite_no (by decide +kernel) ?_⟩⟩
      have hf := hf.same (same_upd hp1 (o := .tup [.str "join", .str "cut", .str "meet"]))
      refine ⟨_, rfl, rd_c (wd hf ?_)⟩
      refine ⟨sz_n (by decide : 2 ≤ 1000), fun p2 hp2 => ⟨p2, _, rfl, .inr (SqT.of upd_same), rfl, rfl, _, rfl, ite_no (by decide +kernel) ?_⟩⟩
      exact leaf _ ((same_upd hp1).trans (same_upd hp2)) (by unfold walkL; rw [eb]) (by unfold layS; rw [eb]; rfl)
    | half m r0 =>
      refine ⟨_, rfl, rd_c (wd hf ?_)⟩
      refine ⟨sz_n (by decide : 3 ≤ 1000), fun p1 hp1 => ⟨p1, _, rfl, .inr (SqT.of upd_same), rfl, rfl, _, rfl, ite_no (by decide +kernel) ?_⟩⟩
      have hf := hf.same (same_upd hp1 (o := .tup [.str "join", .str "cut", .str "meet"]))
      refine ⟨_, rfl, rd_c (wd hf ?_)⟩
      refine ⟨sz_n (by decide : 2 ≤ 1000), fun p2 hp2 => ⟨p2, _, rfl, .inr (SqT.of upd_same), rfl, rfl, _, rfl, ite_no (by decide +kernel) ?_⟩⟩
      exact leaf _ ((same_upd hp1).trans (same_upd hp2)) (by unfold walkL; rw [eb]) (by unfold layS; rw [eb]; rfl)
end

/-! ### the law's own placing of a leaf -/
theorem rb_mul {m n : Nat} {q r : Rat} (h : Rb m q) (k : Rb n r) : Rb (m + n) (q * r) := by
  rw [← rat_prod]
  exact rb_div (Int.mul_ne_zero (den_ne q) (den_ne r)) (h.1.mul k.1) (h.2.mul k.2)
/-- a line that moves, with numbers that are not great -/
def MoveF : Form → Prop
  | .slide _ w => w.B 1000
  | .turn _ _ c s => Rb 20 c ∧ Rb 20 s
  | _ => False
section
variable {P : Program} {w : World} {K : PySem.W.Frag} {mg : Str → Option Value} {base : Heap}
theorem rd_lin {σ : L2.St} {H : Hp} {Q : VK} {i j k l : Nat} {v1 v2 v3 v4 : V} {a b c d : Rat} (h1 : σ[i]? = some (some v1)) (h2 : σ[j]? = some (some v2)) (h3 : σ[k]? = some (some v3)) (h4 : σ[l]? = some (some v4))
    (z1 : DT K H v1 (eF a)) (z2 : DT K H v2 (eF b)) (z3 : DT K H v3 (eF c)) (z4 : DT K H v4 (eF d)) (ba : Rb 20 a) (bb : Rb 1000 b) (bc : Rb 20 c) (bd : Rb 1000 d) (q : ∀ H' v, Same H H' → DT K H' v (eF (a * b + c * d)) → Q v H') :
    tCall (spD_two K (fun q r => q + r) (fun _ => True)) [] E0 (tCons (tCall (spD_two K (fun q r => q * r) (fun _ => True)) [] E0 (tCons (tVar i) (tCons (tVar j) tNil))) (tCons (tCall (spD_two K (fun q r => q * r) (fun _ => True)) [] E0 (tCons (tVar k) (tCons (tVar l) tNil))) tNil)) σ H Q :=
  ⟨v1, h1, v2, h2, _, _, a, b, 20, 1000, rfl, z1, z2, ba, bb, by decide, trivial, fun H1 w1 S1 y1 => ⟨v3, h3, v4, h4, _, _, c, d, 20, 1000, rfl, z3.same S1, z4.same S1, bc, bd, by decide, trivial, fun H2 w2 S2 y2 =>
    ⟨_, _, a * b, c * d, 20 + 1000, 20 + 1000, rfl, y1.same S2, y2, rb_mul ba bb, rb_mul bc bd, by decide, trivial, fun H3 w3 S3 y3 => q H3 w3 (S1.trans (S2.trans S3)) y3⟩⟩⟩
theorem B_mono {m n : Nat} {p : P3} (h : p.B m) (hn : m ≤ n) : p.B n := ⟨⟨h.1.1.mono hn, h.1.2.mono hn⟩, ⟨h.2.1.1.mono hn, h.2.1.2.mono hn⟩, ⟨h.2.2.1.mono hn, h.2.2.2.mono hn⟩⟩
theorem ep_eq {p : P3} {x y z : Rat} (h1 : p.x = x) (h2 : p.y = y) (h3 : p.z = z) : eP p = .tuple [eF x, eF y, eF z] := by
  subst h1 h2 h3; rfl
theorem pt_inv {H : Hp} {v : V} {p : P3} (h : DT K H v (eP p)) : ∃ a x y z, v = .ref a ∧ SqT K H a [x, y, z] ∧ DT K H x (eF p.x) ∧ DT K H y (eF p.y) ∧ DT K H z (eF p.z) := by
  obtain ⟨a, xs, rfl, ha, hs⟩ := DT.inv h
  cases hs with
  | cons h1 hs => cases hs with
    | cons h2 hs => cases hs with
      | cons h3 hs => cases hs; exact ⟨a, _, _, _, rfl, ha.sq, h1, h2, h3⟩
def sp_applied (K : PySem.W.Frag) : Sp := fun vs H Q _ => ∃ v1 v2 f p, vs = [v1, v2] ∧ DT K H v1 (eForm f) ∧ DT K H v2 (eP p) ∧ MoveF f ∧ p.B 1000 ∧ ∀ H' v, Same H H' → DT K H' v (eP (applyF f p)) → Q v H'
theorem ok__law_applied (T : Tx K mg w) : FnOk P w K mg base CX0 5 T.f__law_applied T.d__law_applied ["_law_form", "_law_point_here"] (sp_applied K) := by
  have G__law_added := okD__law_added (P := P) (w := w) (base := base) T
  have G__law_other_way := okD__law_other_way (P := P) (w := w) (base := base) T
  have G__law_plus := okD__law_plus (P := P) (w := w) (base := base) T
  have G__law_times := okD__law_times (P := P) (w := w) (base := base) T
  refine T.F__law_applied.ok sc__law_applied (fun vs H Q E h => ?_) (fun cdv A outer s H vs Q E hr h => ?_)
  · obtain ⟨_, _, _, _, rfl, _⟩ := h
    rfl
  obtain ⟨v1, v2, f, p, rfl, h1, h2, mf, bp, k⟩ := h
  refine ⟨_, (pss_cons (ps_if (pt_cmpR op_eq (pe_ix ix_tup (pv 0) pe_int (fun _ _ => rfl)) pe_str (nomark _)) (pss_one (ps_ret (pe_call G__law_added (hr.mono (by first | decide | omega)) (by rfl) T.g__law_added T.F__law_added.kp T.b__law_added .nil pass0 (pa_cons (pv 1) (pa_cons (pe_ix ix_tup (pv 0) pe_int (fun _ _ => rfl)) pa_nil))))) pss_nil)
      (pss_cons (ps_asg (pv 1) (pg_tup (by rfl) (pgs_cons (pg_name (i := 2) sc__law_applied.nd rfl (Or.inl rfl)) (pgs_cons (pg_name (i := 3) sc__law_applied.nd rfl (Or.inl rfl)) (pgs_cons (pg_name (i := 4) sc__law_applied.nd rfl (Or.inl rfl)) pgs_nil)))))
      (pss_cons (ps_par (i := 5) (j := 6) (by rfl) sc__law_applied.nd rfl rfl (by decide) rfl rfl (pa_cons (pe_ix ix_tup (pv 0) pe_int (fun _ _ => rfl)) (pa_cons (pe_ix ix_tup (pv 0) pe_int (fun _ _ => rfl)) pa_nil)) (by rfl))
      (pss_cons (ps_set (i := 7) sc__law_applied.nd rfl (Or.inl rfl) (pe_call G__law_other_way (hr.mono (by first | decide | omega)) (by rfl) T.g__law_other_way T.F__law_other_way.kp T.b__law_other_way .nil pass0 (pa_cons (pv 6) pa_nil)))
      (pss_cons (ps_if (pt_cmpR op_eq (pe_ix ix_tup (pv 0) pe_int (fun _ _ => rfl)) pe_str (nomark _)) (pss_one (ps_ret (pe_tup (pa_cons (pv 2) (pa_cons (pe_call G__law_plus (hr.mono (by first | decide | omega)) (by rfl) T.g__law_plus T.F__law_plus.kp T.b__law_plus .nil pass0 (pa_cons (pe_call G__law_times (hr.mono (by first | decide | omega)) (by rfl) T.g__law_times T.F__law_times.kp T.b__law_times .nil pass0 (pa_cons (pv 5) (pa_cons (pv 3) pa_nil))) (pa_cons (pe_call G__law_times (hr.mono (by first | decide | omega)) (by rfl) T.g__law_times T.F__law_times.kp T.b__law_times .nil pass0 (pa_cons (pv 7) (pa_cons (pv 4) pa_nil))) pa_nil))) (pa_cons (pe_call G__law_plus (hr.mono (by first | decide | omega)) (by rfl) T.g__law_plus T.F__law_plus.kp T.b__law_plus .nil pass0 (pa_cons (pe_call G__law_times (hr.mono (by first | decide | omega)) (by rfl) T.g__law_times T.F__law_times.kp T.b__law_times .nil pass0 (pa_cons (pv 6) (pa_cons (pv 3) pa_nil))) (pa_cons (pe_call G__law_times (hr.mono (by first | decide | omega)) (by rfl) T.g__law_times T.F__law_times.kp T.b__law_times .nil pass0 (pa_cons (pv 5) (pa_cons (pv 4) pa_nil))) pa_nil))) pa_nil)))))) pss_nil)
      (pss_cons (ps_if (pt_cmpR op_eq (pe_ix ix_tup (pv 0) pe_int (fun _ _ => rfl)) pe_str (nomark _)) (pss_one (ps_ret (pe_tup (pa_cons (pe_call G__law_plus (hr.mono (by first | decide | omega)) (by rfl) T.g__law_plus T.F__law_plus.kp T.b__law_plus .nil pass0 (pa_cons (pe_call G__law_times (hr.mono (by first | decide | omega)) (by rfl) T.g__law_times T.F__law_times.kp T.b__law_times .nil pass0 (pa_cons (pv 5) (pa_cons (pv 2) pa_nil))) (pa_cons (pe_call G__law_times (hr.mono (by first | decide | omega)) (by rfl) T.g__law_times T.F__law_times.kp T.b__law_times .nil pass0 (pa_cons (pv 6) (pa_cons (pv 4) pa_nil))) pa_nil))) (pa_cons (pv 3) (pa_cons (pe_call G__law_plus (hr.mono (by first | decide | omega)) (by rfl) T.g__law_plus T.F__law_plus.kp T.b__law_plus .nil pass0 (pa_cons (pe_call G__law_times (hr.mono (by first | decide | omega)) (by rfl) T.g__law_times T.F__law_times.kp T.b__law_times .nil pass0 (pa_cons (pv 5) (pa_cons (pv 4) pa_nil))) (pa_cons (pe_call G__law_times (hr.mono (by first | decide | omega)) (by rfl) T.g__law_times T.F__law_times.kp T.b__law_times .nil pass0 (pa_cons (pv 7) (pa_cons (pv 2) pa_nil))) pa_nil))) pa_nil)))))) pss_nil)
      (pss_one (ps_ret (pe_tup (pa_cons (pe_call G__law_plus (hr.mono (by first | decide | omega)) (by rfl) T.g__law_plus T.F__law_plus.kp T.b__law_plus .nil pass0 (pa_cons (pe_call G__law_times (hr.mono (by first | decide | omega)) (by rfl) T.g__law_times T.F__law_times.kp T.b__law_times .nil pass0 (pa_cons (pv 5) (pa_cons (pv 2) pa_nil))) (pa_cons (pe_call G__law_times (hr.mono (by first | decide | omega)) (by rfl) T.g__law_times T.F__law_times.kp T.b__law_times .nil pass0 (pa_cons (pv 7) (pa_cons (pv 3) pa_nil))) pa_nil))) (pa_cons (pe_call G__law_plus (hr.mono (by first | decide | omega)) (by rfl) T.g__law_plus T.F__law_plus.kp T.b__law_plus .nil pass0 (pa_cons (pe_call G__law_times (hr.mono (by first | decide | omega)) (by rfl) T.g__law_times T.F__law_times.kp T.b__law_times .nil pass0 (pa_cons (pv 6) (pa_cons (pv 2) pa_nil))) (pa_cons (pe_call G__law_times (hr.mono (by first | decide | omega)) (by rfl) T.g__law_times T.F__law_times.kp T.b__law_times .nil pass0 (pa_cons (pv 5) (pa_cons (pv 3) pa_nil))) pa_nil))) (pa_cons (pv 4) pa_nil)))))))))))), ?_⟩
  rw [show L2.start nm__law_applied [v1, v2] = [some v1, some v2, none, none, none, none, none, none] from rfl]
  cases f with
  | slide j wv =>
    refine ⟨_, rfl, rd_c (rx_dt (j := 0) h1 rfl fun y hy => ?_)⟩
    cases hy.str_inv
    refine ⟨rfl, _, rfl, iteT ?_⟩
    refine ⟨_, rfl, _, rfl, rd_c (rx_dt (j := 2) h1 rfl fun y hy => ?_)⟩
    exact ⟨_, _, _, _, rfl, h2, hy, B_mono bp (by decide), B_mono mf (by decide), fun H1 v S1 z1 => k H1 v S1 z1⟩
  | turn j ax c sn =>
    obtain ⟨bc, bs⟩ := mf
    refine ⟨_, rfl, rd_c (rx_dt (j := 0) h1 rfl fun y hy => ?_)⟩
    cases hy.str_inv
    refine ⟨rfl, _, rfl, iteF ?_⟩
    obtain ⟨a, vx, vy, vz, rfl, ha, zx, zy, zz⟩ := pt_inv h2
    refine ⟨_, rfl, a, _, rfl, ha, rfl, _, _, rfl, _, _, rfl, _, _, rfl, rfl, ?_⟩
    dsimp only [gName, List.set_cons_succ, List.set_cons_zero]
    refine ⟨_, rfl, rd_c (rx_dt (j := 3) h1 rfl fun vc zc => ?_)⟩
    refine ⟨_, rfl, rd_c (rx_dt (j := 4) h1 rfl fun vs zs => ?_)⟩
    refine ⟨_, _, rfl, ?_⟩
    dsimp only [gName, List.set_cons_succ, List.set_cons_zero]
    refine ⟨_, rfl, _, _, rfl, zs, fun H1 vb S1 zb => ?_⟩
    dsimp only [gName, List.set_cons_succ, List.set_cons_zero]
    have h1 := h1.same S1
    have zx := zx.same S1
    have zy := zy.same S1
    have zz := zz.same S1
    have zc := zc.same S1
    have zs := zs.same S1
    have bb := rb_neg bs
    refine ⟨_, rfl, rd_c (rx_dt (j := 2) h1 rfl fun y hy => ?_)⟩
    cases hy.str_inv
    refine ⟨rfl, _, rfl, ite2 (fun e => ?_) (fun e => ?_)⟩
    · have e := vstr_eq e
      refine rd_ret (rd_tup (rd_cons ⟨_, rfl, rd_cons (rd_lin (K := K) rfl rfl rfl rfl zc zy zb zz bc bp.2.1 bb bp.2.2 fun H2 w2 S2 y2 => rd_cons (rd_lin (K := K) rfl rfl rfl rfl (zs.same S2) (zy.same S2) (zc.same S2) (zz.same S2) bs bp.2.1 bc bp.2.2 fun H3 w3 S3 y3 => ⟨sz_n (by decide : 3 ≤ 1000), fun q hq => ?_⟩))⟩))
      refine k _ _ (S1.trans (S2.trans (S3.trans (same_upd hq)))) ?_
      rw [show eP (applyF (.turn j ax c sn) p) = .tuple [eF p.x, eF (c * p.y + -sn * p.z), eF (sn * p.y + c * p.z)] from ep_eq (by simp only [applyF, rotT, if_pos e, T3.app, P3.dot]; grind) (by simp only [applyF, rotT, if_pos e, T3.app, P3.dot]; grind) (by simp only [applyF, rotT, if_pos e, T3.app, P3.dot]; grind)]
      exact dt3 hq (zx.same (S2.trans S3)) (y2.same S3) y3
    have e1 := vstr_ne e
    refine ⟨_, rfl, rd_c (rx_dt (j := 2) h1 rfl fun y hy => ?_)⟩
    cases hy.str_inv
    refine ⟨rfl, _, rfl, ite2 (fun e => ?_) (fun e => ?_)⟩
    · have e := vstr_eq e
      refine rd_ret (rd_tup (rd_cons (rd_lin (K := K) rfl rfl rfl rfl zc zx zs zz bc bp.1 bs bp.2.2 fun H2 w2 S2 y2 => rd_cons ⟨_, rfl, rd_cons (rd_lin (K := K) rfl rfl rfl rfl (zc.same S2) (zz.same S2) (zb.same S2) (zx.same S2) bc bp.2.2 bb bp.1 fun H3 w3 S3 y3 => ⟨sz_n (by decide : 3 ≤ 1000), fun q hq => ?_⟩)⟩)))
      refine k _ _ (S1.trans (S2.trans (S3.trans (same_upd hq)))) ?_
      rw [show eP (applyF (.turn j ax c sn) p) = .tuple [eF (c * p.x + sn * p.z), eF p.y, eF (c * p.z + -sn * p.x)] from ep_eq (by simp only [applyF, rotT, if_neg e1, if_pos e, T3.app, P3.dot]; grind) (by simp only [applyF, rotT, if_neg e1, if_pos e, T3.app, P3.dot]; grind) (by simp only [applyF, rotT, if_neg e1, if_pos e, T3.app, P3.dot]; grind)]
      exact dt3 hq (y2.same S3) (zy.same (S2.trans S3)) y3
    have e2 := vstr_ne e
    dsimp only [tNext]
    refine rd_ret (rd_tup (rd_cons (rd_lin (K := K) rfl rfl rfl rfl zc zx zb zy bc bp.1 bb bp.2.1 fun H2 w2 S2 y2 => rd_cons (rd_lin (K := K) rfl rfl rfl rfl (zs.same S2) (zx.same S2) (zc.same S2) (zy.same S2) bs bp.1 bc bp.2.1 fun H3 w3 S3 y3 => rd_cons ⟨_, rfl, sz_n (by decide : 3 ≤ 1000), fun q hq => ?_⟩))))
    refine k _ _ (S1.trans (S2.trans (S3.trans (same_upd hq)))) ?_
    rw [show eP (applyF (.turn j ax c sn) p) = .tuple [eF (c * p.x + -sn * p.y), eF (sn * p.x + c * p.y), eF p.z] from ep_eq (by simp only [applyF, rotT, if_neg e1, if_neg e2, T3.app, P3.dot]; grind) (by simp only [applyF, rotT, if_neg e1, if_neg e2, T3.app, P3.dot]; grind) (by simp only [applyF, rotT, if_neg e1, if_neg e2, T3.app, P3.dot]; grind)]
    exact dt3 hq (y2.same S3) y3 (zz.same (S2.trans S3))
  | box _ _ => exact mf.elim
  | ball _ _ => exact mf.elim
  | half _ _ => exact mf.elim
  | two _ _ _ => exact mf.elim
def WaysOk (ws : List Form) (p : P3) : Prop := (∀ f ∈ ws, MoveF f) ∧ ∀ m, (standsF (ws.take m) p).B 1000
def sp_stands (K : PySem.W.Frag) : Sp := fun vs H Q _ => ∃ WL vp fs ws p, vs = [.ref WL, vp] ∧ H WL = some (.lst fs) ∧ DTs K H fs (ws.map eForm) ∧ DT K H vp (eP p) ∧ WaysOk ws p ∧ ∀ H' v, Same H H' → DT K H' v (eP (standsF ws p)) → Q v H'
theorem ok__law_stands (T : Tx K mg w) : FnOk P w K mg base CX0 6 T.f__law_stands T.d__law_stands ["_law_ways", "_law_point_here"] (sp_stands K) := by
  have G__law_applied := ok__law_applied (P := P) (w := w) (base := base) T
  refine T.F__law_stands.ok sc__law_stands (fun vs H Q E h => ?_) (fun cdv A outer s H vs Q E hr h => ?_)
  · obtain ⟨_, _, _, _, _, rfl, _⟩ := h
    rfl
  obtain ⟨WL, vp, fs, ws, p, rfl, hW, hf, hp, ⟨mv, bo⟩, k⟩ := h
  refine ⟨_, (pss_cons (ps_for PassesOwn.never rfl (pi_list (pv 0)) (pg_name (i := 2) sc__law_stands.nd rfl (Or.inl rfl)) (pss_one (ps_set (i := 1) sc__law_stands.nd rfl (Or.inl rfl) (pe_call G__law_applied (hr.mono (by first | decide | omega)) (by rfl) T.g__law_applied T.F__law_applied.kp T.b__law_applied .nil pass0 (pa_cons (pv 2) (pa_cons (pv 1) pa_nil))))))
      (pss_one (ps_ret (pv 1)))), ?_⟩
  rw [show L2.start nm__law_stands [.ref WL, vp] = [some (.ref WL), some vp, none] from rfl]
  have hl : fs.length = ws.length := by rw [hf.len, List.length_map]
  refine ⟨_, rfl, WL, rfl, ⟨_, SqL.of hW⟩, for_list (K := K) (a := WL) (xs := fs) (fun m σ H' => ∃ vq v2, σ = [some (.ref WL), some vq, v2] ∧ Same H H' ∧ DT K H' vq (eP (standsF (ws.take m) p)))
    ⟨vp, _, rfl, Same.refl _, hp⟩ (fun m σ H' _ q => ?_) (fun m x σ H' hx q => ?_) (fun σ H' q => ?_)⟩
  · obtain ⟨_, _, _, S, _⟩ := q
    exact SqL.of (S _ _ hW)
  · obtain ⟨vq, v2, rfl, S, hq⟩ := q
    obtain ⟨d, hd, zx⟩ := hf.get' hx
    rw [List.getElem?_map] at hd
    cases ef : ws[m]? with
    | none => rw [ef] at hd; cases hd
    | some f =>
      rw [ef] at hd
      cases hd
      have et : ws.take (m + 1) = ws.take m ++ [f] := by
        have h1 := (List.getElem?_eq_some_iff.mp ef)
        rw [List.take_succ_eq_append_getElem h1.1, h1.2]
      dsimp only [gName, List.set_cons_succ, List.set_cons_zero]
      refine ⟨_, rfl, _, rfl, _, _, f, _, rfl, zx.same S, hq, mv f (List.mem_of_getElem? ef), bo m, fun H2 w2 S2 z2 => ?_⟩
      dsimp only [gName, List.set_cons_succ, List.set_cons_zero]
      exact ⟨w2, _, rfl, S.trans S2, by rw [et, standsF_snoc]; exact z2⟩
  · obtain ⟨vq, v2, rfl, S, hq⟩ := q
    rw [hl, List.take_length] at hq
    exact ⟨_, rfl, k _ _ S hq⟩
end

/-! ### the law's own leaves -/
section
variable {P : Program} {w : World} {K : PySem.W.Frag} {mg : Str → Option Value} {base : Heap}
def LeafOk (ws : List Form) : Prop := WaysOk ws o3 ∧ WaysOk ws ex3 ∧ WaysOk ws ey3 ∧ WaysOk ws ez3
theorem WaysOk.end {ws : List Form} {p : P3} (h : WaysOk ws p) : (standsF ws p).B 1000 := by
  have := h.2 ws.length
  rw [List.take_length] at this
  exact this
def sp_leaf (K : PySem.W.Frag) : Sp := fun vs H Q _ => ∃ BL bvs bs WL fs ws vfar far l b, vs = [.ref BL, .int ((l : Nat) : Int), .ref WL, vfar] ∧ H BL = some (.lst bvs) ∧ DTs K H bvs (bs.map eBody) ∧ H WL = some (.lst fs) ∧ DTs K H fs (ws.map eForm) ∧ DT K H vfar (eP far) ∧ bs[l]? = some b ∧ LeafOk ws ∧ far.B 4000 ∧
  ∀ H' v, Same H H' → DT K H' v (eLeaf (leafAt bs I3 far (l, ws))) → Q v H'
theorem ok__law_leaf (T : Tx K mg w) : FnOk P w K mg base CX0 7 T.f__law_leaf T.d__law_leaf ["_law_bodies_here", "_law_leaf_here", "_law_ways", "_law_far"] (sp_leaf K) := by
  have G__law_stands := ok__law_stands (P := P) (w := w) (base := base) T
  have G__law_away := okD__law_away (P := P) (w := w) (base := base) T
  have G__law_added := okD__law_added (P := P) (w := w) (base := base) T
  refine T.F__law_leaf.ok sc__law_leaf (fun vs H Q E h => ?_) (fun cdv A outer s H vs Q E hr h => ?_)
  · obtain ⟨_, _, _, _, _, _, _, _, _, _, rfl, _⟩ := h
    rfl
  obtain ⟨BL, bvs, bs, WL, fs, ws, vfar, far, l, b, rfl, hB, hbs, hW, hws, hfar, eb, ⟨w0, w1, w2, w3⟩, bfar, k⟩ := h
  refine ⟨_, (pss_cons (ps_asg (pe_tup (pa_cons (pe_tup (pa_cons pe_int (pa_cons pe_int pa_nil))) (pa_cons (pe_tup (pa_cons pe_int (pa_cons pe_int pa_nil))) pa_nil))) (pg_tup (by rfl) (pgs_cons (pg_name (i := 4) sc__law_leaf.nd rfl (Or.inl rfl)) (pgs_cons (pg_name (i := 5) sc__law_leaf.nd rfl (Or.inl rfl)) pgs_nil))))
      (pss_cons (ps_set (i := 6) sc__law_leaf.nd rfl (Or.inl rfl) (pe_call G__law_stands (hr.mono (by first | decide | omega)) (by rfl) T.g__law_stands T.F__law_stands.kp T.b__law_stands .nil pass0 (pa_cons (pv 2) (pa_cons (pe_tup (pa_cons (pv 4) (pa_cons (pv 4) (pa_cons (pv 4) pa_nil)))) pa_nil))))
      (pss_cons (ps_set (i := 7) sc__law_leaf.nd rfl (Or.inr rfl) (pe_lst pa_nil))
      (pss_cons (ps_for PassesOwn.never rfl (pi_list (pe_lst (pa_cons (pe_tup (pa_cons (pv 5) (pa_cons (pv 4) (pa_cons (pv 4) pa_nil)))) (pa_cons (pe_tup (pa_cons (pv 4) (pa_cons (pv 5) (pa_cons (pv 4) pa_nil)))) (pa_cons (pe_tup (pa_cons (pv 4) (pa_cons (pv 4) (pa_cons (pv 5) pa_nil)))) pa_nil))))) (pg_name (i := 8) sc__law_leaf.nd rfl (Or.inl rfl)) (pss_one (ps_expr (pe_bm PySem.F.plainAttrs_list PySem.F.slot_list_append PySem.F.type_list_append mt_append (pv 7) (pa_cons (pe_call G__law_away (hr.mono (by first | decide | omega)) (by rfl) T.g__law_away T.F__law_away.kp T.b__law_away .nil pass0 (pa_cons (pe_call G__law_stands (hr.mono (by first | decide | omega)) (by rfl) T.g__law_stands T.F__law_stands.kp T.b__law_stands .nil pass0 (pa_cons (pv 2) (pa_cons (pv 8) pa_nil))) (pa_cons (pv 6) pa_nil))) pa_nil)))))
      (pss_cons (ps_set (i := 9) sc__law_leaf.nd rfl (Or.inl rfl) (pe_callTy call_tuple_of (by rfl) T.m_tuple (by decide +kernel) (pa_cons (pe_lc (own := [("_law_k", 10)]) (g := gName 10) (by rfl) sc__law_leaf.nd (pi_range1 (by rfl) T.m_range (pa_cons pe_int pa_nil)) (blkOk_by (own := [("_law_k", 10)]) (N := nm__law_leaf) (sc := defScope s__law_leaf) (by decide +kernel)) (fun _ _ _ _ _ => (pg_name (i := 10) sc__law_leaf.nd rfl (Or.inl rfl))) (fun _ _ _ _ _ => pts_nil) (fun _ _ _ _ _ => (pe_tup (pa_cons (pe_ix (ix_tupC (K := K) rfl) (pe_ix (ix_listC (K := K) rfl) (pv 7) pe_int (fun _ _ => rfl)) (pv 10) (fun _ _ => rfl)) (pa_cons (pe_ix (ix_tupC (K := K) rfl) (pe_ix (ix_listC (K := K) rfl) (pv 7) pe_int (fun _ _ => rfl)) (pv 10) (fun _ _ => rfl)) (pa_cons (pe_ix (ix_tupC (K := K) rfl) (pe_ix (ix_listC (K := K) rfl) (pv 7) pe_int (fun _ _ => rfl)) (pv 10) (fun _ _ => rfl)) pa_nil)))))) pa_nil)))
      (pss_one (ps_ret (pe_tup (pa_cons (pe_ix ix_tup (pe_ix ix_list (pv 0) (pv 1) (fun _ _ => rfl)) pe_int (fun _ _ => rfl)) (pa_cons (pe_ix ix_tup (pe_ix ix_list (pv 0) (pv 1) (fun _ _ => rfl)) pe_int (fun _ _ => rfl)) (pa_cons (pv 9) (pa_cons (pe_call G__law_added (hr.mono (by first | decide | omega)) (by rfl) T.g__law_added T.F__law_added.kp T.b__law_added .nil pass0 (pa_cons (pv 6) (pa_cons (pv 3) pa_nil))) pa_nil)))))))))))), ?_⟩
  rw [show L2.start nm__law_leaf [.ref BL, .int ((l : Nat) : Int), .ref WL, vfar] = [some (.ref BL), some (.int ((l : Nat) : Int)), some (.ref WL), some vfar, none, none, none, none, none, none, none] from rfl]
  refine rd_asg (rd_tup (rd_cons (tup2i (K := K) pi_c pi_c fun H1 x1 S1 z1 => rd_cons (tup2i (K := K) pi_c pi_c fun H2 x2 S2 z2 => ⟨sz_n (by decide : 2 ≤ 1000), fun p hp => ⟨p, _, rfl, SqT.of upd_same, rfl, _, _, rfl, _, _, rfl, rfl, ?_⟩⟩))))
  dsimp only [gName, List.set_cons_succ, List.set_cons_zero]
  have S3 := (S1.trans S2).trans (same_upd hp (o := .tup [x1, x2]))
  have z1 : DT K _ x1 (eF 0) := (z1.same S2).same (same_upd hp (o := .tup [x1, x2]))
  have z2 : DT K _ x2 (eF 1) := z2.same (same_upd hp (o := .tup [x1, x2]))
  generalize upd H2 p (.tup [x1, x2]) = H3 at S3 z1 z2 ⊢
  -- slide
  refine ⟨_, rfl, _, rfl, _, rfl, _, rfl, sz_n (by decide : 3 ≤ 1000), fun q0 hq0 => ?_⟩
  have c0 : DT K _ (.ref q0) (eP o3) := dt3 hq0 z1 z1 z1
  have S4 := same_upd hq0 (o := .tup [x1, x1, x1])
  generalize upd H3 q0 (.tup [x1, x1, x1]) = H4 at c0 S4 ⊢
  have S34 := S3.trans S4
  refine ⟨WL, _, fs, ws, o3, rfl, S34 _ _ hW, hws.tk (Same.tk S34), c0, w0, fun H5 vsl S5 zsl => ?_⟩
  dsimp only [gName, List.set_cons_succ, List.set_cons_zero]
  have S35 := S34.trans S5
  have z1 := z1.same (S4.trans S5)
  have z2 := z2.same (S4.trans S5)
  -- images
  refine ⟨sz_n (by decide : 0 ≤ 1000), fun IL hIL => ?_⟩
  dsimp only [gName, List.set_cons_succ, List.set_cons_zero]
  have S6 := same_upd hIL (o := .lst [])
  have gI : upd H5 IL (.lst []) IL = some (.lst []) := upd_same
  generalize upd H5 IL (.lst []) = H6 at S6 gI ⊢
  have S36 := S35.trans S6
  have z1 := z1.same S6
  have z2 := z2.same S6
  refine ⟨_, rfl, _, rfl, _, rfl, sz_n (by decide : 3 ≤ 1000), fun q1 hq1 => ?_⟩
  have c1 : DT K _ (.ref q1) (eP ex3) := dt3 hq1 z2 z1 z1
  have S7 := same_upd hq1 (o := .tup [x2, x1, x1])
  generalize upd H6 q1 (.tup [x2, x1, x1]) = H7 at c1 S7 ⊢
  have z1 := z1.same S7
  have z2 := z2.same S7
  refine ⟨_, rfl, _, rfl, _, rfl, sz_n (by decide : 3 ≤ 1000), fun q2 hq2 => ?_⟩
  have c2 : DT K _ (.ref q2) (eP ey3) := dt3 hq2 z1 z2 z1
  have c1 := c1.same (same_upd hq2 (o := .tup [x1, x2, x1]))
  have S8 := S7.trans (same_upd hq2 (o := .tup [x1, x2, x1]))
  have z1 := z1.same (same_upd hq2 (o := .tup [x1, x2, x1]))
  have z2 := z2.same (same_upd hq2 (o := .tup [x1, x2, x1]))
  generalize upd H7 q2 (.tup [x1, x2, x1]) = H8 at c1 c2 S8 z1 z2 ⊢
  refine ⟨_, rfl, _, rfl, _, rfl, sz_n (by decide : 3 ≤ 1000), fun q3 hq3 => ?_⟩
  have c3 : DT K _ (.ref q3) (eP ez3) := dt3 hq3 z1 z1 z2
  have c1 := c1.same (same_upd hq3 (o := .tup [x1, x1, x2]))
  have c2 := c2.same (same_upd hq3 (o := .tup [x1, x1, x2]))
  have S9 := S8.trans (same_upd hq3 (o := .tup [x1, x1, x2]))
  generalize upd H8 q3 (.tup [x1, x1, x2]) = H9 at c1 c2 c3 S9 ⊢
  refine ⟨sz_n (by decide : 3 ≤ 1000), fun PL hPL => ?_⟩
  have gP : upd H9 PL (.lst [.ref q1, .ref q2, .ref q3]) PL = some (.lst [.ref q1, .ref q2, .ref q3]) := upd_same
  have S10 := S9.trans (same_upd hPL (o := .lst [.ref q1, .ref q2, .ref q3]))
  have c1 := c1.same (same_upd hPL (o := .lst [.ref q1, .ref q2, .ref q3]))
  have c2 := c2.same (same_upd hPL (o := .lst [.ref q1, .ref q2, .ref q3]))
  have c3 := c3.same (same_upd hPL (o := .lst [.ref q1, .ref q2, .ref q3]))
  have nPL : PL ≠ IL := fun e => by rw [e, S9 _ _ gI] at hPL; cases hPL
  generalize upd H9 PL (.lst [.ref q1, .ref q2, .ref q3]) = Hq at gP S10 c1 c2 c3 ⊢
  have gI := S10 _ _ gI
  have nIL : H5 IL = none := hIL
  have Sq : Same H5 Hq := S6.trans S10
  have zsl := zsl.same Sq
  have pts : ∀ (m : Nat) (x : V), [V.ref q1, V.ref q2, V.ref q3][m]? = some x → ∃ p, [ex3, ey3, ez3][m]? = some p ∧ DT K Hq x (eP p) ∧ WaysOk ws p := fun m x hx => by
    match m, hx with
    | 0, hx => cases hx; exact ⟨_, rfl, c1, w1⟩
    | 1, hx => cases hx; exact ⟨_, rfl, c2, w2⟩
    | 2, hx => cases hx; exact ⟨_, rfl, c3, w3⟩
  refine ⟨PL, rfl, ⟨_, SqL.of gP⟩, for_list (K := K) (a := PL) (xs := [.ref q1, .ref q2, .ref q3]) (fun m σ H' => ∃ v8 ys, σ = [some (.ref BL), some (.int ((l : Nat) : Int)), some (.ref WL), some vfar, some x1, some x2, some vsl, some (.ref IL), v8, none, none] ∧ KB IL Hq H' ∧ H' IL = some (.lst ys) ∧ DTs K H' ys (([ex3, ey3, ez3].take m).map fun p => eP ((standsF ws p).sub (standsF ws o3))))
    ⟨_, [], rfl, KB.refl, gI, .nil⟩ (fun m σ H' _ q => ?_) (fun m x σ H' hx q => ?_) (fun σ H' q => ?_)⟩
  · obtain ⟨_, _, _, kb, _⟩ := q
    exact SqL.of (kb PL _ gP nPL)
  · obtain ⟨v8, ys, rfl, kb, hI, hys⟩ := q
    obtain ⟨p, ep, zx, wo⟩ := pts m x hx
    have tkb := kb.tk gI
    have et : [ex3, ey3, ez3].take (m + 1) = [ex3, ey3, ez3].take m ++ [p] := by
      have h1 := (List.getElem?_eq_some_iff.mp ep)
      rw [List.take_succ_eq_append_getElem h1.1, h1.2]
    have nW : WL ≠ IL := ne_of_none (S35 _ _ hW) nIL
    dsimp only [gName, List.set_cons_succ, List.set_cons_zero]
    refine ⟨_, rfl, .inl ⟨rfl, _, SqL.of hI⟩, ?_⟩
    refine ⟨_, rfl, _, rfl, WL, _, fs, ws, p, rfl, kb WL _ (Sq _ _ (S35 _ _ hW)) nW, (hws.tk (Same.tk (S35.trans Sq))).tk tkb, zx.tk tkb, wo, fun H11 v11 S11 z11 => ?_⟩
    refine ⟨_, rfl, _, _, _, _, rfl, z11, (zsl.tk tkb).same S11, B_mono wo.end (by decide), B_mono w0.end (by decide), fun H12 v12 S12 z12 => ?_⟩
    have hI12 := S12 _ _ (S11 _ _ hI)
    refine ⟨IL, _, _, rfl, rfl, hI12, small1000 (by rw [hys.len, List.length_map, List.length_take]; show min m 3 ≤ 1000; omega), ?_⟩
    refine ⟨_, ys ++ [v12], rfl, fun a o ho na => ?_, upd_same, ?_⟩
    · rw [upd_ne na]; exact S12 _ _ (S11 _ _ (kb a o ho na))
    · rw [et, List.map_append]
      exact (((hys.tk (Same.tk S11)).tk (Same.tk S12)).tk (tk_lst hI12)).append (.cons (z12.tk (tk_lst hI12)) .nil)
  · obtain ⟨v8, ys, rfl, kb, hI, hys⟩ := q
    have tkb := kb.tk gI
    have hys : DTs K H' ys [eP ((standsF ws ex3).sub (standsF ws o3)), eP ((standsF ws ey3).sub (standsF ws o3)), eP ((standsF ws ez3).sub (standsF ws o3))] := hys
    dsimp only [gName, List.set_cons_succ, List.set_cons_zero]
    have eL : leafAt bs I3 far (l, ws) = ⟨b.name, b.form, T3.tr ⟨(standsF ws ex3).sub (standsF ws o3), (standsF ws ey3).sub (standsF ws o3), (standsF ws ez3).sub (standsF ws o3)⟩, (standsF ws o3).add far⟩ := by
      have hp := place_is ws far
      unfold leafAt
      rw [show bs[(l, ws).1]? = bs[l]? from rfl, eb]
      show (⟨_, _, (placeF ws (I3, far)).1, (placeF ws (I3, far)).2⟩ : Leaf) = _
      rw [hp.1, hp.2]
    rw [eL] at k
    have kbS : ∀ a o, H a = some o → H' a = some o := fun a o ho => kb a o (Sq _ _ (S35 _ _ ho)) (ne_of_none (S35 _ _ ho) nIL)
    have zsl := zsl.tk tkb
    have bsl := w0.end
    generalize (standsF ws ex3).sub (standsF ws o3) = p1 at *
    generalize (standsF ws ey3).sub (standsF ws o3) = p2 at *
    generalize (standsF ws ez3).sub (standsF ws o3) = p3 at *
    refine ⟨3, rfl, by decide, by decide, fun D nD => ?_⟩
    refine lc_mapR (K := K) (n := 3) [.tuple [eF (p1.at 0), eF (p2.at 0), eF (p3.at 0)], .tuple [eF (p1.at 1), eF (p2.at 1), eF (p3.at 1)], .tuple [eF (p1.at 2), eF (p2.at 2), eF (p3.at 2)]] nD rfl (by decide) (fun i H2 d hi hd S R r => ?_) (fun H2 zs S hD hzs => ?_)
    · obtain ⟨_, rfl⟩ := e3 (f := fun i => .tuple [eF (p1.at i), eF (p2.at i), eF (p3.at i)]) d hd
      have hI2 := S _ _ hI
      have hys2 := hys.tk (Same.tk S)
      refine ⟨rfl, _, rfl, rd_c (rx_lst (j := 0) hI2 hys2 rfl fun y1 hy1 => ⟨_, rfl, ?_⟩)⟩
      rw [Int.zero_add]
      refine rx_dt hy1 (at_get hi) fun e1 he1 => ?_
      refine ⟨_, rfl, rd_c (rx_lst (j := 1) hI2 hys2 rfl fun y2 hy2 => ⟨_, rfl, rx_dt hy2 (at_get hi) fun e2 he2 => ?_⟩)⟩
      refine ⟨_, rfl, rd_c (rx_lst (j := 2) hI2 hys2 rfl fun y3 hy3 => ⟨_, rfl, rx_dt hy3 (at_get hi) fun e3 he3 => ?_⟩)⟩
      exact ⟨sz_n (by decide : 3 ≤ 1000), fun q hq => r _ _ (same_upd hq) (dt3 hq he1 he2 he3)⟩
    · refine ⟨D, zs, rfl, .inl ⟨SqL.of hD, fun tt htt => ?_⟩⟩
      dsimp only [gName, List.set_cons_succ, List.set_cons_zero]
      have zt : DT K (upd H2 tt (.tup zs)) (.ref tt) (eT (T3.tr ⟨p1, p2, p3⟩)) := dt_new htt hzs
      have St : Same H' (upd H2 tt (.tup zs)) := S.trans (same_upd htt)
      generalize upd H2 tt (.tup zs) = Ht at zt St ⊢
      have Sall : Same H Ht := fun a o ho => St _ _ (kbS a o ho)
      have hB := Sall _ _ hB
      have hbs := hbs.tk (Same.tk Sall)
      have ebb : (bs.map eBody)[l]? = some (eBody b) := by rw [List.getElem?_map, eb]; rfl
      refine ⟨_, rfl, _, rfl, rx_lst hB hbs ebb fun y hy => rd_c (rx_dt (j := 0) hy rfl fun n hn => ?_)⟩
      refine ⟨_, rfl, _, rfl, rx_lst hB hbs ebb fun y hy => rd_c (rx_dt (j := 1) hy rfl fun f hf => ?_)⟩
      refine ⟨_, rfl, _, rfl, _, rfl, _, _, _, _, rfl, zsl.same St, hfar.same Sall, B_mono bsl (by decide), bfar, fun H5 v5 S5 z5 => ?_⟩
      refine ⟨sz_n (by decide : 4 ≤ 1000), fun r hr' => k _ _ (Sall.trans (S5.trans (same_upd hr'))) ?_⟩
      exact dt_new hr' (.cons (hn.same S5) (.cons (hf.same S5) (.cons (zt.same S5) (.cons z5 .nil))))
def sp_lawlaid (K : PySem.W.Frag) (n : Nat) : Sp := fun vs H Q _ => ∃ BL bvs bs i vfar far, vs = [.ref BL, .int ((i : Nat) : Int), vfar] ∧ H BL = some (.lst bvs) ∧ DTs K H bvs (bs.map eBody) ∧ DT K H vfar (eP far) ∧ WOk bs n i ∧ layN bs n i ≤ 1000 ∧ (layS bs n i 0).length ≤ 1000 ∧ far.B 4000 ∧ (∀ x ∈ walkL bs n i, LeafOk x.2 ∧ ∃ b, bs[x.1]? = some b) ∧
  ∀ H' v, Same H H' → DT K H' v (.tuple [.tuple ((layL bs n i I3 far).map eLeaf), .tuple (layS bs n i 0)]) → Q v H'
theorem ok__law_laid (T : Tx K mg w) : FnOk P w K mg base CX0 14 T.f__law_laid T.d__law_laid ["_law_bodies_here", "_law_number_here", "_law_far"] (sp_lawlaid K 12) := by
  have G__law_walk := (okW__law_walk (P := P) (w := w) (base := base) T 12).mono (show 13 ≤ 13 by decide)
  have G__law_leaf := ok__law_leaf (P := P) (w := w) (base := base) T
  refine T.F__law_laid.ok sc__law_laid (fun vs H Q E h => ?_) (fun cdv A outer s H vs Q E hr h => ?_)
  · obtain ⟨_, _, _, _, _, _, rfl, _⟩ := h
    rfl
  obtain ⟨BL, bvs, bs, i, vfar, far, rfl, hB, hbs, hfar, wo, hN, hS, bfar, lo, k⟩ := h
  refine ⟨_, (pss_cons (ps_asg (pe_call G__law_walk (hr.mono (by first | decide | omega)) (by rfl) T.g__law_walk T.F__law_walk.kp T.b__law_walk .nil pass0 (pa_cons (pv 0) (pa_cons (pv 1) pa_nil))) (pg_unl (by rfl) (pgs_cons (pg_name (i := 3) sc__law_laid.nd rfl (Or.inl rfl)) (pgs_cons (pg_name (i := 4) sc__law_laid.nd rfl (Or.inl rfl)) pgs_nil))))
      (pss_one (ps_ret (pe_tup (pa_cons (pe_callTy call_tuple_of (by rfl) T.m_tuple (by decide +kernel) (pa_cons (pe_lc (own := [("_law_leaf_here", 5), ("_law_ways", 6)]) (g := gTup K 2 (gCons (gName 5) (gCons (gName 6) gNil))) (by rfl) sc__law_laid.nd (pi_list (pv 3)) (blkOk_by (own := [("_law_leaf_here", 5), ("_law_ways", 6)]) (N := nm__law_laid) (sc := defScope s__law_laid) (by decide +kernel)) (fun _ _ _ _ _ => (pg_tupC (K := K) rfl (by rfl) (pgs_cons (pg_name (i := 5) sc__law_laid.nd rfl (Or.inl rfl)) (pgs_cons (pg_name (i := 6) sc__law_laid.nd rfl (Or.inl rfl)) pgs_nil)))) (fun _ _ _ _ _ => pts_nil) (fun _ _ _ _ _ => (pe_call G__law_leaf (hr.mono (by first | decide | omega)) (by rfl) T.g__law_leaf T.F__law_leaf.kp T.b__law_leaf .nil pass0 (pa_cons (pv 0) (pa_cons (pv 5) (pa_cons (pv 6) (pa_cons (pv 2) pa_nil))))))) pa_nil)) (pa_cons (pe_callTy call_tuple_of (by rfl) T.m_tuple (by decide +kernel) (pa_cons (pv 4) pa_nil)) pa_nil)))))), ?_⟩
  rw [show L2.start nm__law_laid [.ref BL, .int ((i : Nat) : Int), vfar] = [some (.ref BL), some (.int ((i : Nat) : Int)), some vfar, none, none, none, none] from rfl]
  refine ⟨_, rfl, _, rfl, BL, i, bvs, bs, rfl, hB, hbs, wo, hN, hS, by decide, fun H3 v3 S3 W3 => ?_⟩
  obtain ⟨p, pl, ps, ls, us, rfl, g1, g2, g3, g4, g5⟩ := W3
  refine ⟨p, _, rfl, SqL.of g1, rfl, _, _, rfl, _, _, rfl, rfl, ?_⟩
  dsimp only [gName, List.set_cons_succ, List.set_cons_zero]
  have lls : ls.length = layN bs 12 i := by rw [g3.len, walkL_len]
  refine ⟨_, rfl, pl, rfl, ⟨_, SqL.of g2⟩, fun D nD => ?_⟩
  refine lc_list (K := K) (a := pl) (xs := ls) (MapP K H3 D ((walkL bs 12 i).map fun x => eLeaf (leafAt bs I3 far x))) (MapP.start nD) (fun m H' _ q => SqL.of (q.1 _ _ g2)) (fun m x H' hx q => ?_) (fun H' q => ?_)
  · obtain ⟨z, ez, a, wa, fs, rfl, q1, q2, q3⟩ := g3.get hx
    have S := q.1
    obtain ⟨lok, b, eb⟩ := lo z (List.mem_of_getElem? ez)
    refine ⟨a, _, rfl, SqT.of (S _ _ q1), rfl, _, _, rfl, _, _, rfl, rfl, rfl, ?_⟩
    refine ⟨_, rfl, _, rfl, _, rfl, _, rfl, BL, bvs, bs, wa, fs, z.2, vfar, far, z.1, b, rfl, S _ _ (S3 _ _ hB), hbs.tk (Same.tk (S3.trans S)), S _ _ q2, q3.tk (Same.tk S), hfar.same (S3.trans S), eb, lok, bfar, fun H4 v4 S4 z4 => ?_⟩
    exact q.next nD S4 (by rw [List.getElem?_map, ez]; rfl) z4 (by rw [List.length_map, walkL_len]; exact hN)
  · obtain ⟨S, ys, hD, hys, hyl⟩ := q
    rw [show ls.length = ((walkL bs 12 i).map fun x => eLeaf (leafAt bs I3 far x)).length by rw [List.length_map, g3.len], List.take_length] at hys
    refine ⟨D, ys, rfl, .inl ⟨SqL.of hD, fun t1 ht1 => ?_⟩⟩
    have c1 := dt_new ht1 hys
    have S1 := same_upd ht1 (o := .tup ys)
    generalize upd H' t1 (.tup ys) = H5 at c1 S1 ⊢
    refine ⟨_, rfl, ps, us, rfl, .inl ⟨SqL.of (S1 _ _ (S _ _ g4)), fun t2 ht2 => ?_⟩⟩
    have c2 := dt_new ht2 ((g5.tk (Same.tk S)).tk (Same.tk S1))
    have S2 := same_upd ht2 (o := .tup us)
    generalize upd H5 t2 (.tup us) = H6 at c2 S2 ⊢
    refine ⟨sz_n (by decide : 2 ≤ 1000), fun r hr' => k _ _ (S3.trans (S.trans (S1.trans (S2.trans (same_upd hr'))))) ?_⟩
    rw [lay_walk, List.map_map]
    exact dt2 hr' (c1.same S2) c2
end

/-! ### lines that are good, and sizes along them -/
def GoodMv : Form → Prop
  | .slide _ w => w.F 42 378
  | .turn _ _ c s => Fx 65 65 c ∧ Fx 65 65 s
  | _ => False
def GB (i : Nat) (b : Body) : Prop := match b.form with
  | .slide j w => j < i ∧ w.F 42 378
  | .turn j _ c s => j < i ∧ Fx 65 65 c ∧ Fx 65 65 s
  | .two wd j k => (wd = "join" ∨ wd = "cut" ∨ wd = "meet") ∧ j < i ∧ k < i
  | f => LeafF f
def GBs (bs : List Body) : Prop := ∀ i b, bs[i]? = some b → GB i b
theorem GBs.nil : GBs [] := fun i b e => by cases e
theorem GBs.snoc {bs : List Body} {b : Body} (h : GBs bs) (hb : GB bs.length b) : GBs (bs ++ [b]) := fun i c e => by
  rw [List.getElem?_append] at e
  split at e
  · exact h i c e
  · next hj =>
    have : i = bs.length := by
      have := (List.getElem?_eq_some_iff.mp e).1
      simp only [List.length_singleton] at this
      omega
    subst this
    rw [Nat.sub_self] at e
    cases e
    exact hb
theorem wok {bs : List Body} (h : GBs bs) : ∀ (f i : Nat), i < bs.length → i < f → WOk bs f i
  | 0, _, _, hf => absurd hf (Nat.not_lt_zero _)
  | f + 1, i, hi, hf => by
    have eb := List.getElem?_eq_getElem hi
    have gb := h i _ eb
    refine ⟨_, eb, ?_⟩
    unfold GB at gb
    generalize bs[i].form = fm at gb
    cases fm with
    | slide j w => exact wok h f j (by omega) (by omega)
    | turn j ax c s => exact wok h f j (by omega) (by omega)
    | two wd j k => exact ⟨gb.1, wok h f j (by omega) (by omega), wok h f k (by omega) (by omega)⟩
    | box _ _ => trivial
    | ball _ _ => trivial
    | half _ _ => trivial
theorem walk_good {bs : List Body} (h : GBs bs) : ∀ (f i : Nat) (x : Nat × List Form), x ∈ walkL bs f i → (∀ g ∈ x.2, GoodMv g) ∧ ∃ b, bs[x.1]? = some b
  | 0, _, x, hx => by cases hx
  | f + 1, i, x, hx => by
    unfold walkL at hx
    cases e : bs[i]? with
    | none => rw [e] at hx; cases hx
    | some b =>
      rw [e] at hx
      have gb := h i b e
      obtain ⟨nm, fm⟩ := b
      cases fm with
      | two wd j k =>
        rcases List.mem_append.mp hx with hx | hx
        · exact walk_good h f j x hx
        · exact walk_good h f k x hx
      | slide j w =>
        obtain ⟨y, hy, rfl⟩ := List.mem_map.mp hx
        obtain ⟨h1, h2⟩ := walk_good h f j y hy
        refine ⟨fun g hg => ?_, h2⟩
        rcases List.mem_append.mp hg with hg | hg
        · exact h1 g hg
        · rw [List.mem_singleton.mp hg]; exact gb.2
      | turn j ax c sn =>
        obtain ⟨y, hy, rfl⟩ := List.mem_map.mp hx
        obtain ⟨h1, h2⟩ := walk_good h f j y hy
        refine ⟨fun g hg => ?_, h2⟩
        rcases List.mem_append.mp hg with hg | hg
        · exact h1 g hg
        · rw [List.mem_singleton.mp hg]; exact gb.2
      | box _ _ => cases List.mem_singleton.mp hx; exact ⟨fun g hg => by (cases hg), _, e⟩
      | ball _ _ => cases List.mem_singleton.mp hx; exact ⟨fun g hg => by (cases hg), _, e⟩
      | half _ _ => cases List.mem_singleton.mp hx; exact ⟨fun g hg => by (cases hg), _, e⟩
theorem P3.F.up {D N : Nat} {p : P3} (k : Nat) (hk : 0 < k) (h : p.F D N) (h0 : 0 < D) : p.F (D * k) (N * k) := ⟨h.1.up k hk h0, h.2.1.up k hk h0, h.2.2.up k hk h0⟩
def T3.F (D N : Nat) (t : T3) : Prop := t.a.F D N ∧ t.b.F D N ∧ t.c.F D N
theorem T3.F.app {D E N M : Nat} {t : T3} {p : P3} (h0 : 0 < D * E) (h : t.F D N) (k : p.F E M) : (t.app p).F (D * E) (N * M + N * M + N * M) := ⟨h.1.dot h0 k, h.2.1.dot h0 k, h.2.2.dot h0 k⟩
theorem T3.F.tr {D N : Nat} {t : T3} (h : t.F D N) : t.tr.F D N := by
  obtain ⟨⟨a, b, c⟩, ⟨d, e, f⟩, ⟨g, i, j⟩⟩ := h
  exact ⟨⟨a, d, g⟩, ⟨b, e, i⟩, ⟨c, f, j⟩⟩
theorem T3.F.mono {D N M : Nat} {t : T3} (h : t.F D N) (hn : N ≤ M) : t.F D M := ⟨h.1.mono hn, h.2.1.mono hn, h.2.2.mono hn⟩
theorem T3.F.up {D N : Nat} {t : T3} (k : Nat) (hk : 0 < k) (h : t.F D N) (h0 : 0 < D) : t.F (D * k) (N * k) := ⟨h.1.up k hk h0, h.2.1.up k hk h0, h.2.2.up k hk h0⟩
theorem T3.F.B {D N n : Nat} {t : T3} (h : t.F D N) (h0 : 0 < D) (hD : D < 2 ^ n) (hN : N < 2 ^ n) : t.B n := ⟨h.1.B h0 hD hN, h.2.1.B h0 hD hN, h.2.2.B h0 hD hN⟩
theorem Fx.one65 : Fx 65 65 1 := ⟨65, rfl, by decide⟩
theorem fx_sub0 {D N : Nat} {s : Rat} (h : Fx D N s) : Fx D N (0 - s) := by
  rw [show (0 : Rat) - s = -s by grind]; exact h.neg
theorem rot_F (ax : Str) {c s : Rat} (hc : Fx 65 65 c) (hs : Fx 65 65 s) : (rotT ax c s).F 65 65 := by
  unfold rotT
  split
  · exact ⟨⟨Fx.one65, Fx.zero, Fx.zero⟩, ⟨Fx.zero, hc, fx_sub0 hs⟩, ⟨Fx.zero, hs, hc⟩⟩
  · split
    · exact ⟨⟨hc, Fx.zero, hs⟩, ⟨Fx.zero, Fx.one65, Fx.zero⟩, ⟨fx_sub0 hs, Fx.zero, hc⟩⟩
    · exact ⟨⟨hc, fx_sub0 hs, Fx.zero⟩, ⟨hs, hc, Fx.zero⟩, ⟨Fx.zero, Fx.zero, Fx.one65⟩⟩
theorem p65 (a : Nat) : 0 < 65 ^ a := Nat.pow_pos (by decide)
/-! the law's side -/
def nB : Nat → Nat
  | 0 => 42
  | a + 1 => 195 * nB a + 378 * 65 ^ (a + 1)
theorem apply_F {a : Nat} {f : Form} {p : P3} (hf : GoodMv f) (hp : p.F (42 * 65 ^ a) (nB a)) : (applyF f p).F (42 * 65 ^ (a + 1)) (nB (a + 1)) := by
  have h0 : 0 < 42 * 65 ^ a := Nat.mul_pos (by decide) (p65 a)
  have e1 : 42 * 65 ^ a * 65 = 42 * 65 ^ (a + 1) := by rw [Nat.pow_succ, Nat.mul_assoc]
  cases f with
  | slide j w =>
    have h1 := hp.up 65 (by decide) h0
    have h2 := P3.F.up (65 ^ (a + 1)) (p65 _) (show w.F 42 378 from hf) (by decide)
    rw [e1] at h1
    exact (h1.add (by rw [← e1]; exact Nat.mul_pos h0 (by decide)) h2).mono (by show nB a * 65 + 378 * 65 ^ (a + 1) ≤ 195 * nB a + 378 * 65 ^ (a + 1); omega)
  | turn j ax c s =>
    have h1 := T3.F.app (D := 65) (E := 42 * 65 ^ a) (Nat.mul_pos (by decide) h0) (rot_F ax hf.1 hf.2) hp
    rw [Nat.mul_comm 65 (42 * 65 ^ a), e1] at h1
    exact h1.mono (by show 65 * nB a + 65 * nB a + 65 * nB a ≤ 195 * nB a + 378 * 65 ^ (a + 1); omega)
  | box _ _ => exact hf.elim
  | ball _ _ => exact hf.elim
  | half _ _ => exact hf.elim
  | two _ _ _ => exact hf.elim
theorem stands_F {p : P3} (hp : p.F 42 42) : ∀ (a : Nat) (ws : List Form), ws.length = a → (∀ f ∈ ws, GoodMv f) → (standsF ws p).F (42 * 65 ^ a) (nB a)
  | 0, ws, h, _ => by
    cases ws with
    | nil => exact hp
    | cons _ _ => cases h
  | a + 1, ws, h, hg => by
    obtain ⟨vs, f, rfl⟩ : ∃ vs f, ws = vs ++ [f] := by
      refine ⟨ws.dropLast, ws.getLast (by intro z; subst z; cases h), ?_⟩
      rw [List.dropLast_concat_getLast]
    rw [standsF_snoc]
    exact apply_F (hg f (List.mem_append_right _ List.mem_cons_self)) (stands_F hp a vs (by rw [List.length_append] at h; exact Nat.succ.inj h) fun g k => hg g (List.mem_append_left _ k))
theorem nB_small : ∀ a, a ≤ 12 → nB a < 2 ^ 1000 ∧ 42 * 65 ^ a < 2 ^ 1000 := by decide +kernel
theorem good_move {f : Form} (h : GoodMv f) : MoveF f := by
  cases f with
  | slide j w => exact P3.F.B (show w.F 42 378 from h) (by decide) (Nat.lt_of_lt_of_le (by decide : 42 < 2 ^ 10) (Nat.pow_le_pow_right (by decide) (by decide))) (Nat.lt_of_lt_of_le (by decide : 378 < 2 ^ 10) (Nat.pow_le_pow_right (by decide) (by decide)))
  | turn j ax c s => exact ⟨h.1.rb (by decide) (by decide) (by decide), h.2.rb (by decide) (by decide) (by decide)⟩
  | box _ _ => exact h.elim
  | ball _ _ => exact h.elim
  | half _ _ => exact h.elim
  | two _ _ _ => exact h.elim
theorem ways_ok {p : P3} (hp : p.F 42 42) {ws : List Form} (hl : ws.length ≤ 12) (hg : ∀ f ∈ ws, GoodMv f) : WaysOk ws p := by
  refine ⟨fun f hf => good_move (hg f hf), fun m => ?_⟩
  have hm : (ws.take m).length ≤ 12 := by rw [List.length_take]; omega
  have h := stands_F hp _ (ws.take m) rfl fun f hf => hg f (List.mem_of_mem_take hf)
  have s := nB_small _ hm
  exact h.B (Nat.mul_pos (by decide) (p65 _)) s.2 s.1
theorem leaf_ok {bs : List Body} (h : GBs bs) (i : Nat) : ∀ x ∈ walkL bs 12 i, LeafOk x.2 ∧ ∃ b, bs[x.1]? = some b := fun x hx => by
  have hg := walk_good h 12 i x hx
  have hl := walk_ways bs 12 i x hx
  have u : Fx 42 42 1 := ⟨42, rfl, by decide⟩
  exact ⟨⟨ways_ok ⟨Fx.zero, Fx.zero, Fx.zero⟩ hl hg.1, ways_ok ⟨u, Fx.zero, Fx.zero⟩ hl hg.1, ways_ok ⟨Fx.zero, u, Fx.zero⟩ hl hg.1, ways_ok ⟨Fx.zero, Fx.zero, u⟩ hl hg.1⟩, hg.2⟩
/-! the program's side -/
def sB : Nat → Nat
  | 0 => 142884
  | a + 1 => sB a * 65 + 3095820 * 195 ^ a
theorem sB_small : ∀ a, a ≤ 13 → sB a < 2 ^ 1000 ∧ 1764 * 65 ^ a < 2 ^ 1000 ∧ 195 ^ a < 2 ^ 1000 ∧ 65 ^ a < 2 ^ 1000 ∧ 65 ^ a * 42 < 2 ^ 1000 ∧ 195 ^ a * 378 + 195 ^ a * 378 + 195 ^ a * 378 < 2 ^ 1000 := by decide +kernel
theorem p1000 {n : Nat} (h : n < 2 ^ 1000) : n < 2 ^ 4000 := Nat.lt_of_lt_of_le h (Nat.pow_le_pow_right (by decide) (by decide))
theorem lay_ok {bs : List Body} (h : GBs bs) : ∀ (f i a : Nat) (t : T3) (s : P3), i < bs.length → i < f → a + f ≤ 13 → t.F (65 ^ a) (195 ^ a) → s.F (1764 * 65 ^ a) (sB a) → LayOk bs f i t s
  | 0, _, _, _, _, _, hf, _, _, _ => absurd hf (Nat.not_lt_zero _)
  | f + 1, i, a, t, s, hi, hf, ha, ht, hs => by
    have eb := List.getElem?_eq_getElem hi
    have gb := h i _ eb
    refine ⟨_, eb, ?_⟩
    unfold GB at gb
    generalize bs[i].form = fm at gb
    obtain ⟨q1, q2, q3, q4, q5, q6⟩ := sB_small a (by omega)
    have z1 : 0 < 65 ^ a := p65 a
    have zs : 0 < 1764 * 65 ^ a := Nat.mul_pos (by decide) z1
    have tB : t.B 1000 := ht.B z1 q4 q3
    have sB' : s.B 4000 := hs.B zs (p1000 q2) (p1000 q1)
    have e1 : 1764 * 65 ^ a * 65 = 1764 * 65 ^ (a + 1) := by rw [Nat.pow_succ, Nat.mul_assoc]
    have su : s.F (1764 * 65 ^ (a + 1)) (sB a * 65) := by rw [← e1]; exact hs.up 65 (by decide) zs
    cases fm with
    | slide j w =>
      have tw := T3.F.app (Nat.mul_pos z1 (by decide)) ht gb.2
      refine ⟨tB, gb.2.B (by decide) (Nat.lt_of_lt_of_le (by decide : 42 < 2 ^ 10) (Nat.pow_le_pow_right (by decide) (by decide))) (Nat.lt_of_lt_of_le (by decide : 378 < 2 ^ 10) (Nat.pow_le_pow_right (by decide) (by decide))), tw.B (Nat.mul_pos z1 (by decide)) (p1000 q5) (p1000 q6), sB', ?_⟩
      refine lay_ok h f j (a + 1) t _ (by omega) (by omega) (by omega) ?_ ?_
      · have := ht.up 65 (by decide) z1
        rw [← Nat.pow_succ] at this
        exact this.mono (by rw [Nat.pow_succ 195]; exact Nat.mul_le_mul_left _ (by decide))
      · have tu := tw.up 2730 (by decide) (Nat.mul_pos z1 (by decide))
        rw [show 65 ^ a * 42 * 2730 = 1764 * 65 ^ (a + 1) by rw [Nat.pow_succ]; omega] at tu
        refine (tu.add (by rw [← e1]; exact Nat.mul_pos zs (by decide)) su).mono ?_
        show (195 ^ a * 378 + 195 ^ a * 378 + 195 ^ a * 378) * 2730 + sB a * 65 ≤ sB a * 65 + 3095820 * 195 ^ a
        omega
    | turn j ax c sn =>
      have rF := rot_F ax gb.2.1 gb.2.2
      refine ⟨(gb.2.2.rb (n := 7) (by decide) (by decide) (by decide)).1.mono (by decide) |> fun x => ⟨x, (gb.2.2.rb (n := 7) (by decide) (by decide) (by decide)).2.mono (by decide)⟩, tB, rF.B (by decide) (Nat.lt_of_lt_of_le (by decide : 65 < 2 ^ 10) (Nat.pow_le_pow_right (by decide) (by decide))) (Nat.lt_of_lt_of_le (by decide : 65 < 2 ^ 10) (Nat.pow_le_pow_right (by decide) (by decide))), ?_⟩
      refine lay_ok h f j (a + 1) _ s (by omega) (by omega) (by omega) ?_ (su.mono (by show sB a * 65 ≤ sB a * 65 + 3095820 * 195 ^ a; omega))
      have e2 : 65 * 65 ^ a = 65 ^ (a + 1) := by rw [Nat.pow_succ, Nat.mul_comm]
      have e3 : 65 * 195 ^ a + 65 * 195 ^ a + 65 * 195 ^ a = 195 ^ (a + 1) := by rw [Nat.pow_succ]; omega
      have g : ∀ r : P3, r.F (65 ^ a) (195 ^ a) → ((rotT ax c sn).tr.app r).F (65 ^ (a + 1)) (195 ^ (a + 1)) := fun r hr => by
        have := T3.F.app (Nat.mul_pos (by decide) z1) rF.tr hr
        rw [e2, e3] at this
        exact this
      exact ⟨g _ ht.1, g _ ht.2.1, g _ ht.2.2⟩
    | two wd j k => exact ⟨gb.1, lay_ok h f j a t s (by omega) (by omega) (by omega) ht hs, lay_ok h f k a t s (by omega) (by omega) (by omega) ht hs⟩
    | box _ _ => trivial
    | ball _ _ => trivial
    | half _ _ => trivial
theorem I3_F : I3.F 1 1 := by
  have u : Fx 1 1 1 := ⟨1, rfl, by decide⟩
  exact ⟨⟨u, Fx.zero, Fx.zero⟩, ⟨Fx.zero, u, Fx.zero⟩, ⟨Fx.zero, Fx.zero, u⟩⟩
/-- what the laws of this family ask of a thing -/
theorem laid_ok {bs : List Body} (h : GBs bs) {th : Thing} {m : Rat} (hi : th.i < bs.length) (hb : bs.length ≤ 12) (hm : th.move.F 42 378) (hk : Fx 42 378 m) (hN : layN bs 12 th.i ≤ 1000) (hS : (layS bs 12 th.i 0).length ≤ 1000) : LaidOk bs 12 th m := by
  have b1 : (42 : Nat) < 2 ^ 4000 := Nat.lt_of_lt_of_le (by decide : 42 < 2 ^ 10) (Nat.pow_le_pow_right (by decide) (by decide))
  have b2 : (378 : Nat) < 2 ^ 4000 := Nat.lt_of_lt_of_le (by decide : 378 < 2 ^ 10) (Nat.pow_le_pow_right (by decide) (by decide))
  exact ⟨lay_ok h 12 th.i 0 I3 _ hi (by omega) (by decide) I3_F (hm.scale hk), hN, hS, hm.B (by decide) b1 b2, hk.rb (by decide) b1 b2⟩

/-! ### lines drawn: slides and turns -/
section
variable {P : Program} {w : World} {K : PySem.W.Frag} {mg : Str → Option Value} {base : Heap}
def sp_move (K : PySem.W.Frag) : Sp := fun vs H Q _ => ∃ (d l s : Addr) (ns : List Int) (c n : Nat), vs = [.ref d, .int ((n : Nat) : Int)] ∧ Dk K H d l s ns c ∧ c + 20 < 2 ^ 30 ∧
  ∀ H' v f, Keep d l H H' → Dk K H' d l s ns (c + 6) → DT K H' v (eForm f) → (∀ i nm, n < i → GB i ⟨nm, f⟩) → ((∃ w, f = .slide n w) ∨ ∃ ax c s, f = .turn n ax c s) → Q v H'
theorem mv_no2 {f : Form} {n : Nat} (h : (∃ w, f = .slide n w) ∨ ∃ ax c s, f = .turn n ax c s) : ∀ wd j k, f ≠ .two wd j k := fun wd j k e => by
  subst e
  rcases h with ⟨w, h⟩ | ⟨ax, c, s, h⟩ <;> cases h
theorem ok__law_sliding (T : Tx K mg w) : FnOk P w K mg base CX0 6 T.f__law_sliding T.d__law_sliding ["_law_deck_here", "_law_number_here"] (sp_move K) := by
  have G__law_point := okD__law_point (P := P) (w := w) (base := base) T
  refine T.F__law_sliding.ok sc__law_sliding (fun vs H Q E h => ?_) (fun cdv A outer s H vs Q E hr h => ?_)
  · obtain ⟨_, _, _, _, _, _, rfl, _⟩ := h
    rfl
  obtain ⟨d, l, s, ns, c, n, rfl, hD, hc, q⟩ := h
  refine ⟨_, (pss_one (ps_ret (pe_tup (pa_cons pe_str (pa_cons (pv 1) (pa_cons (pe_call G__law_point (hr.mono (by first | decide | omega)) (by rfl) T.g__law_point T.F__law_point.kp T.b__law_point .nil pass0 (pa_cons (pv 0) pa_nil)) pa_nil)))))), ?_⟩
  refine ⟨_, rfl, .ref d, rfl, d, l, s, ns, c, rfl, hD, by omega, fun H1 v p k1 D1 z1 f1 => ?_⟩
  refine ⟨sz_n (by decide : 3 ≤ 1000), fun r hr' => q _ _ (.slide n p) (k1.trans (keep_new hr')) (D1.new hr') (dt3 hr' (.str _) (.int _) z1) (fun i nm hi => ⟨hi, f1⟩) (.inl ⟨p, rfl⟩)⟩
theorem tup22 {te11 te12 te21 te22 : TE} {σ : L2.St} {H : Hp} {Q : VK} {a b c d : Int} (h11 : PIt te11 σ a) (h12 : PIt te12 σ b) (h21 : PIt te21 σ c) (h22 : PIt te22 σ d)
    (k : ∀ H' v, Same H H' → DT K H' v (.tuple [.tuple [.int a, .int b], .tuple [.int c, .int d]]) → Q v H') :
    tTup (tCons (tTup (tCons te11 (tCons te12 tNil))) (tCons (tTup (tCons te21 (tCons te22 tNil))) tNil)) σ H Q := by
  refine rd_tup (rd_cons (tup2i (K := K) h11 h12 fun H1 v1 S1 z1 => rd_cons (tup2i (K := K) h21 h22 fun H2 v2 S2 z2 => ?_)))
  exact ⟨sz_n (by decide : 2 ≤ 1000), fun p hp => k _ _ ((S1.trans S2).trans (same_upd hp)) (dt2 hp (z1.same S2) z2)⟩
def CS (d : PyData) : Prop := ∃ c s, d = .tuple [eF c, eF s] ∧ Fx 65 65 c ∧ Fx 65 65 s
theorem cs0 : CS (.tuple [.tuple [.int 0, .int 1], .tuple [.int 1, .int 1]]) := ⟨0, 1, rfl, Fx.zero, Fx.one65⟩
theorem cs1 : CS (.tuple [.tuple [.int 0, .int 1], .tuple [.int (-1), .int 1]]) := ⟨0, -1, rfl, Fx.zero, Fx.one65.neg⟩
theorem cs2 : CS (.tuple [.tuple [.int (-1), .int 1], .tuple [.int 0, .int 1]]) := ⟨-1, 0, rfl, Fx.one65.neg, Fx.zero⟩
theorem cs3 : CS (.tuple [.tuple [.int 3, .int 5], .tuple [.int 4, .int 5]]) := ⟨Rat.divInt 3 5, Rat.divInt 4 5, rfl, ⟨39, rfl, by decide⟩, ⟨52, rfl, by decide⟩⟩
theorem cs4 : CS (.tuple [.tuple [.int 4, .int 5], .tuple [.int (-3), .int 5]]) := ⟨Rat.divInt 4 5, Rat.divInt (-3) 5, rfl, ⟨52, rfl, by decide⟩, ⟨-39, rfl, by decide⟩⟩
theorem cs5 : CS (.tuple [.tuple [.int 5, .int 13], .tuple [.int 12, .int 13]]) := ⟨Rat.divInt 5 13, Rat.divInt 12 13, rfl, ⟨25, rfl, by decide⟩, ⟨60, rfl, by decide⟩⟩
theorem cs6 : CS (.tuple [.tuple [.int 1, .int 1], .tuple [.int 0, .int 1]]) := ⟨1, 0, rfl, Fx.one65, Fx.zero⟩
theorem xyz_at {k : Int} (h0 : 0 ≤ k) (h : k < 3) : ∃ c, atI ("xyz" : Str).cps.toList k = some c := by
  have : k = 0 ∨ k = 1 ∨ k = 2 := by omega
  rcases this with rfl | rfl | rfl
  · exact ⟨120, by decide +kernel⟩
  · exact ⟨121, by decide +kernel⟩
  · exact ⟨122, by decide +kernel⟩
theorem ok__law_turning (T : Tx K mg w) : FnOk P w K mg base CX0 4 T.f__law_turning T.d__law_turning ["_law_deck_here", "_law_number_here"] (sp_move K) := by
  have G__law_take := ok__law_take (P := P) (w := w) (base := base) T
  refine T.F__law_turning.ok sc__law_turning (fun vs H Q E h => ?_) (fun cdv A outer s H vs Q E hr h => ?_)
  · obtain ⟨_, _, _, _, _, _, rfl, _⟩ := h
    rfl
  obtain ⟨d, l, s, ns, c, n, rfl, hD, hc, q⟩ := h
  refine ⟨_, (pss_cons (ps_set (i := 2) sc__law_turning.nd rfl (Or.inl rfl) (pe_lst (pa_cons (pe_tup (pa_cons (pe_tup (pa_cons pe_int (pa_cons pe_int pa_nil))) (pa_cons (pe_tup (pa_cons pe_int (pa_cons pe_int pa_nil))) pa_nil))) (pa_cons (pe_tup (pa_cons (pe_tup (pa_cons pe_int (pa_cons pe_int pa_nil))) (pa_cons (pe_tup (pa_cons (pe_un un_neg pe_int) (pa_cons pe_int pa_nil))) pa_nil))) (pa_cons (pe_tup (pa_cons (pe_tup (pa_cons (pe_un un_neg pe_int) (pa_cons pe_int pa_nil))) (pa_cons (pe_tup (pa_cons pe_int (pa_cons pe_int pa_nil))) pa_nil))) (pa_cons (pe_tup (pa_cons (pe_tup (pa_cons pe_int (pa_cons pe_int pa_nil))) (pa_cons (pe_tup (pa_cons pe_int (pa_cons pe_int pa_nil))) pa_nil))) (pa_cons (pe_tup (pa_cons (pe_tup (pa_cons pe_int (pa_cons pe_int pa_nil))) (pa_cons (pe_tup (pa_cons (pe_un un_neg pe_int) (pa_cons pe_int pa_nil))) pa_nil))) pa_nil)))))))
      (pss_cons (ps_set (i := 2) sc__law_turning.nd rfl (Or.inl rfl) (pe_op op_cat (pv 2) (pe_lst (pa_cons (pe_tup (pa_cons (pe_tup (pa_cons pe_int (pa_cons pe_int pa_nil))) (pa_cons (pe_tup (pa_cons pe_int (pa_cons pe_int pa_nil))) pa_nil))) (pa_cons (pe_tup (pa_cons (pe_tup (pa_cons pe_int (pa_cons pe_int pa_nil))) (pa_cons (pe_tup (pa_cons pe_int (pa_cons pe_int pa_nil))) pa_nil))) pa_nil)))))
      (pss_cons (ps_asg (pe_ix ix_list (pv 2) (pe_call G__law_take (hr.mono (by first | decide | omega)) (by rfl) T.g__law_take T.F__law_take.kp T.b__law_take .nil pass0 (pa_cons (pv 0) (pa_cons pe_int pa_nil))) (fun _ _ => rfl)) (pg_tup (by rfl) (pgs_cons (pg_name (i := 3) sc__law_turning.nd rfl (Or.inl rfl)) (pgs_cons (pg_name (i := 4) sc__law_turning.nd rfl (Or.inl rfl)) pgs_nil))))
      (pss_one (ps_ret (pe_tup (pa_cons pe_str (pa_cons (pv 1) (pa_cons (pe_ix ix_str pe_str (pe_call G__law_take (hr.mono (by first | decide | omega)) (by rfl) T.g__law_take T.F__law_take.kp T.b__law_take .nil pass0 (pa_cons (pv 0) (pa_cons pe_int pa_nil))) (fun _ _ => rfl)) (pa_cons (pv 3) (pa_cons (pv 4) pa_nil))))))))))), ?_⟩
  rw [show L2.start nm__law_turning [.ref d, .int ((n : Nat) : Int)] = [some (.ref d), some (.int ((n : Nat) : Int)), none, none, none] from rfl]
  refine rd_asg (rd_lst (rd_cons (tup22 (K := K) pi_c pi_c pi_c pi_c fun H1 v1 S1 z1 => rd_cons (tup22 (K := K) pi_c pi_c pi_neg pi_c fun H2 v2 S2 z2 => rd_cons (tup22 (K := K) pi_neg pi_c pi_c pi_c fun H3 v3 S3 z3 => rd_cons (tup22 (K := K) pi_c pi_c pi_c pi_c fun H4 v4 S4 z4 => rd_cons (tup22 (K := K) pi_c pi_c pi_neg pi_c fun H5 v5 S5 z5 => ⟨sz_n (by decide : 5 ≤ 1000), fun p hp => ?_⟩)))))))
  dsimp only [gName, List.set_cons_succ, List.set_cons_zero]
  have T5 := tk_new hp (o := .lst [v1, v2, v3, v4, v5])
  have z1 := ((z1.same (S2.trans (S3.trans (S4.trans S5)))).tk T5)
  have z2 := ((z2.same (S3.trans (S4.trans S5))).tk T5)
  have z3 := ((z3.same (S4.trans S5)).tk T5)
  have z4 := ((z4.same S5).tk T5)
  have z5 := z5.tk T5
  have S6 := (S1.trans (S2.trans (S3.trans (S4.trans S5)))).trans (same_upd hp (o := .lst [v1, v2, v3, v4, v5]))
  have gp : upd H5 p (.lst [v1, v2, v3, v4, v5]) p = some (.lst [v1, v2, v3, v4, v5]) := upd_same
  generalize upd H5 p (.lst [v1, v2, v3, v4, v5]) = H6 at z1 z2 z3 z4 z5 S6 gp ⊢
  refine rd_asg (rd_op ⟨_, rfl, rd_lst (rd_cons (tup22 (K := K) pi_c pi_c pi_c pi_c fun H7 v6 S7 z6 => rd_cons (tup22 (K := K) pi_c pi_c pi_c pi_c fun H8 v7 S8 z7 => ⟨sz_n (by decide : 2 ≤ 1000), fun p2 hp2 => ?_⟩)))⟩)
  have S78 := S7.trans S8
  refine ⟨p, p2, _, _, rfl, rfl, same_upd hp2 _ _ (S78 _ _ gp), upd_same, sz_n (by decide : 7 ≤ 1000), fun p3 hp3 => ?_⟩
  dsimp only [gName, List.set_cons_succ, List.set_cons_zero]
  have T9 := (tk_new hp2 (o := .lst [v6, v7])).trans (tk_new hp3 (o := .lst ([v1, v2, v3, v4, v5] ++ [v6, v7])))
  have z1 := (z1.same S78).tk T9
  have z2 := (z2.same S78).tk T9
  have z3 := (z3.same S78).tk T9
  have z4 := (z4.same S78).tk T9
  have z5 := (z5.same S78).tk T9
  have z6 := (z6.same S8).tk T9
  have z7 := z7.tk T9
  have D8 := (hD.same S6).same S78
  have D9 := D8.new hp2 (o := .lst [v6, v7])
  have ap := D9.apart hp3
  have D10 := D9.new hp3 (o := .lst ([v1, v2, v3, v4, v5] ++ [v6, v7]))
  have k10 : Keep d l H _ := same_keep ((S6.trans S78).trans ((same_upd hp2 (o := .lst [v6, v7])).trans (same_upd hp3 (o := .lst ([v1, v2, v3, v4, v5] ++ [v6, v7])))))
  have gq : upd (upd H8 p2 (.lst [v6, v7])) p3 (.lst ([v1, v2, v3, v4, v5] ++ [v6, v7])) p3 = some (.lst [v1, v2, v3, v4, v5, v6, v7]) := upd_same
  generalize upd (upd H8 p2 (.lst [v6, v7])) p3 (.lst ([v1, v2, v3, v4, v5] ++ [v6, v7])) = H10 at z1 z2 z3 z4 z5 z6 z7 D10 k10 gq ⊢
  refine ⟨_, rfl, .ref d, rfl, d, l, s, ns, c, 7, rfl, D10, by omega, by decide, by decide, fun H11 e k11 D11 e0 e1 => ?_⟩
  have gq := k11 p3 _ gq ap.1 ap.2.1
  have t11 := k11.tk D10
  obtain ⟨x, dx, hx, zx, cs⟩ : ∃ x dx, atI [v1, v2, v3, v4, v5, v6, v7] e = some x ∧ DT K H11 x dx ∧ CS dx := by
    have : e = 0 ∨ e = 1 ∨ e = 2 ∨ e = 3 ∨ e = 4 ∨ e = 5 ∨ e = 6 := by omega
    rcases this with rfl | rfl | rfl | rfl | rfl | rfl | rfl
    · exact ⟨v1, _, rfl, z1.tk t11, cs0⟩
    · exact ⟨v2, _, rfl, z2.tk t11, cs1⟩
    · exact ⟨v3, _, rfl, z3.tk t11, cs2⟩
    · exact ⟨v4, _, rfl, z4.tk t11, cs3⟩
    · exact ⟨v5, _, rfl, z5.tk t11, cs4⟩
    · exact ⟨v6, _, rfl, z6.tk t11, cs5⟩
    · exact ⟨v7, _, rfl, z7.tk t11, cs6⟩
  obtain ⟨cc, ss, rfl, fc, fs⟩ := cs
  refine ⟨p3, _, e, x, rfl, rfl, SqL.of gq, hx, ?_⟩
  obtain ⟨a, xs, rfl, ha, hs⟩ := DT.inv zx
  cases hs with
  | cons zc hs => cases hs with
    | cons zs hs =>
      cases hs
      refine ⟨a, _, rfl, ha.sq, rfl, _, _, rfl, _, _, rfl, rfl, ?_⟩
      dsimp only [gName, List.set_cons_succ, List.set_cons_zero]
      refine ⟨_, rfl, .ref d, rfl, d, l, s, ns, c + 1, 3, rfl, D11, by omega, by decide, by decide, fun H12 g k12 D12 g0 g1 => ?_⟩
      obtain ⟨ch, hch⟩ := xyz_at g0 g1
      refine ⟨_, _, ch, rfl, rfl, by decide +kernel, hch, _, rfl, _, rfl, sz_n (by decide : 5 ≤ 1000), fun r hr' => ?_⟩
      refine q _ _ (.turn n ⟨#[ch]⟩ cc ss) (k10.trans (k11.trans (k12.trans (keep_new hr')))) ((D12.new hr').mono (by omega)) (dt_new hr' (.cons (.str _) (.cons (.int _) (.cons (.str _) (.cons (zc.tk (k12.tk D11)) (.cons (zs.tk (k12.tk D11)) .nil)))))) (fun i nm hi => ⟨hi, fc, fs⟩) (.inr ⟨_, cc, ss, rfl⟩)
end

/-! ### more that the laws of the second family share -/
section
variable {P : Program} {w : World} {K : PySem.W.Frag} {mg : Str → Option Value} {base : Heap}
theorem pd_eF (n : Nat) (q : Rat) : PD (n + 1) (eF q) := ⟨fun d hd => by
  simp only [List.mem_cons, List.not_mem_nil, or_false] at hd
  rcases hd with rfl | rfl <;> cases n <;> trivial, by show 2 ≤ 1000; decide⟩
theorem pd_tup {n : Nat} {ds : List PyData} (h : ∀ d ∈ ds, PD n d) (hl : ds.length ≤ 1000) : PD (n + 1) (.tuple ds) := ⟨h, hl⟩
theorem pd_str (n : Nat) (x : Str) : PD n (.str x) := by cases n <;> trivial
theorem pd_int (n : Nat) (x : Int) : PD n (.int x) := by cases n <;> trivial
theorem pd_eP (n : Nat) (p : P3) : PD (n + 2) (eP p) := pd_tup (fun d hd => by
  simp only [List.mem_cons, List.not_mem_nil, or_false] at hd
  rcases hd with rfl | rfl | rfl <;> exact pd_eF _ _) (by show 3 ≤ 1000; decide)
theorem pd_eT (n : Nat) (t : T3) : PD (n + 3) (eT t) := pd_tup (fun d hd => by
  simp only [List.mem_cons, List.not_mem_nil, or_false] at hd
  rcases hd with rfl | rfl | rfl <;> exact pd_eP _ _) (by show 3 ≤ 1000; decide)
theorem pd_eForm (n : Nat) (f : Form) : PD (n + 3) (eForm f) := by
  cases f <;> refine pd_tup (fun d hd => ?_) (by first | (show 3 ≤ 1000; decide) | (show 5 ≤ 1000; decide)) <;> simp only [List.mem_cons, List.not_mem_nil, or_false] at hd
  · rcases hd with rfl | rfl | rfl <;> first | exact pd_str _ _ | exact pd_eP _ _
  · rcases hd with rfl | rfl | rfl <;> first | exact pd_str _ _ | exact pd_eP _ _ | exact pd_eF _ _
  · rcases hd with rfl | rfl | rfl <;> first | exact pd_str _ _ | exact pd_eP _ _ | exact pd_eF _ _
  · rcases hd with rfl | rfl | rfl <;> first | exact pd_str _ _ | exact pd_int _ _
  · rcases hd with rfl | rfl | rfl <;> first | exact pd_str _ _ | exact pd_int _ _ | exact pd_eP _ _
  · rcases hd with rfl | rfl | rfl | rfl | rfl <;> first | exact pd_str _ _ | exact pd_int _ _ | exact pd_eF _ _
theorem pd_eLeaf (n : Nat) (l : Leaf) : PD (n + 4) (eLeaf l) := pd_tup (fun d hd => by
  simp only [List.mem_cons, List.not_mem_nil, or_false] at hd
  rcases hd with rfl | rfl | rfl | rfl <;> first | exact pd_str _ _ | exact pd_eForm _ _ | exact pd_eT _ _ | exact pd_eP _ _) (by show 4 ≤ 1000; decide)
theorem leaf_lay {bs : List Body} {i : Nat} {b : Body} (eb : bs[i]? = some b) (hf : LeafF b.form) (n : Nat) (t : T3) (s : P3) : layL bs (n + 1) i t s = [⟨b.name, b.form, t, s⟩] ∧ layN bs (n + 1) i = 1 ∧ (∀ k, layS bs (n + 1) i k = [.int (k : Int)]) ∧ LayOk bs (n + 1) i t s := by
  obtain ⟨nm, fm⟩ := b
  unfold layL layN layS LayOk
  rw [eb]
  cases fm <;> first | exact hf.elim | exact ⟨rfl, rfl, fun _ => rfl, _, rfl, trivial⟩
theorem filter_one {ts : List Thing} {p : Thing → Bool} {th : Thing} (h1 : th ∈ ts) (h2 : p th = true) (h : ∀ t ∈ ts, p t = true → t = th) : ∃ rest, ts.filter p = th :: rest := by
  cases e : ts.filter p with
  | nil =>
    have : th ∈ ts.filter p := List.mem_filter.mpr ⟨h1, h2⟩
    rw [e] at this; cases this
  | cons t rest =>
    have : t ∈ ts.filter p := by rw [e]; exact List.mem_cons_self
    obtain ⟨a, b⟩ := List.mem_filter.mp this
    exact ⟨rest, by rw [h t a b]⟩
def nmA (k : Nat) : Str := ⟨#[97 + k]⟩
theorem DTs.take {H : Hp} : ∀ {vs : List V} {ds : List PyData} (n : Nat), DTs K H vs ds → DTs K H (vs.take n) (ds.take n)
  | _, _, 0, _ => by rw [List.take_zero, List.take_zero]; exact .nil
  | _, _, _ + 1, .nil => .nil
  | _, _, n + 1, .cons h hs => .cons h (DTs.take n hs)
theorem DTs.drop {H : Hp} : ∀ {vs : List V} {ds : List PyData} (n : Nat), DTs K H vs ds → DTs K H (vs.drop n) (ds.drop n)
  | _, _, 0, h => h
  | _, _, _ + 1, .nil => .nil
  | _, _, n + 1, .cons h hs => DTs.drop n hs
def sp_law (K : PySem.W.Frag) : Sp := fun vs H Q _ => ∃ (a : Addr) (ns : List Int), vs = [.ref a] ∧ SqL K H a (ns.map V.int) ∧ ns.length ≤ 63 ∧ ∀ H', Q (.bl true) H'
theorem nmA_inj {i j : Nat} (h : nmA i = nmA j) : i = j := by
  unfold nmA at h
  injection h with h
  have := congrArg Array.toList h
  injection this
  omega
theorem named_first {bs : List Body} {ts : List Thing} {th : Thing} {b : Body} (hN : ∀ j b, bs[j]? = some b → b.name = nmA j) (hi : ∀ t ∈ ts, t.i < bs.length) (inj : ∀ t ∈ ts, ∀ u ∈ ts, t.i = u.i → t = u) (hth : th ∈ ts) (eb : bs[th.i]? = some b) : ∃ rest, ts.filter (named bs b.name) = th :: rest := by
  refine filter_one hth ?_ fun u hu pu => ?_
  · unfold named; rw [eb]; exact decide_eq_true rfl
  · have hui := hi u hu
    have eu : bs[u.i]? = some bs[u.i] := List.getElem?_eq_getElem hui
    unfold named at pu
    rw [eu] at pu
    have pu := of_decide_eq_true pu
    rw [hN u.i _ eu, hN th.i _ eb] at pu
    exact inj u hu th hth (nmA_inj pu)
theorem layS_kd (bs : List Body) : ∀ (f i n : Nat) (d : PyData), d ∈ layS bs f i n → (∃ z, d = .int z) ∨ (∃ z, d = .str z)
  | 0, _, _, d, h => by cases h
  | f + 1, i, n, d, h => by
    unfold layS at h
    cases e : bs[i]? with
    | none => rw [e] at h; cases h
    | some b =>
      rw [e] at h
      obtain ⟨nm, fm⟩ := b
      cases fm with
      | two wd j k =>
        rcases List.mem_append.mp h with h | h
        · exact layS_kd bs f j _ d h
        · rcases List.mem_append.mp h with h | h
          · exact layS_kd bs f k _ d h
          · exact .inr ⟨wd, List.mem_singleton.mp h⟩
      | slide j w => exact layS_kd bs f j _ d h
      | turn j ax c sn => exact layS_kd bs f j _ d h
      | box _ _ => exact .inl ⟨_, List.mem_singleton.mp h⟩
      | ball _ _ => exact .inl ⟨_, List.mem_singleton.mp h⟩
      | half _ _ => exact .inl ⟨_, List.mem_singleton.mp h⟩
theorem pd_laid {bs : List Body} {n : Nat} {th : Thing} {m : Rat} (hN : layN bs n th.i ≤ 1000) (hS : (layS bs n th.i 0).length ≤ 1000) : PD 9 (.tuple (laidD bs n th m)) := by
  refine pd_tup (fun d hd => ?_) (by show 2 ≤ 1000; decide)
  unfold laidD at hd
  simp only [List.mem_cons, List.not_mem_nil, or_false] at hd
  rcases hd with rfl | rfl
  · refine pd_tup (fun d hd => ?_) (by rw [List.length_map, layL_len]; exact hN)
    obtain ⟨x, _, rfl⟩ := List.mem_map.mp hd
    exact pd_eLeaf _ _
  · refine pd_tup (fun d hd => ?_) hS
    rcases layS_kd bs n th.i 0 d hd with ⟨z, rfl⟩ | ⟨z, rfl⟩
    · exact pd_int _ _
    · exact pd_str _ _
end

/-! ### how many leaves -/
theorem lay_fuel {bs : List Body} (h : GBs bs) : ∀ (f i : Nat), i < bs.length → i < f → ∀ g, i < g → layN bs f i = layN bs g i ∧ ∀ n, layS bs f i n = layS bs g i n
  | 0, _, _, hf, _, _ => absurd hf (Nat.not_lt_zero _)
  | f + 1, i, hi, hf, 0, hg => absurd hg (Nat.not_lt_zero _)
  | f + 1, i, hi, hf, g + 1, hg => by
    have eb := List.getElem?_eq_getElem hi
    have gb := h i _ eb
    unfold layN layS
    rw [eb]
    unfold GB at gb
    dsimp only
    generalize bs[i].form = fm at gb
    cases fm with
    | slide j w => exact lay_fuel h f j (by omega) (by omega) g (by omega)
    | turn j ax c s => exact lay_fuel h f j (by omega) (by omega) g (by omega)
    | two wd j k =>
      obtain ⟨n1, s1⟩ := lay_fuel h f j (by omega) (by omega) g (by omega)
      obtain ⟨n2, s2⟩ := lay_fuel h f k (by omega) (by omega) g (by omega)
      exact ⟨by show layN bs f j + layN bs f k = layN bs g j + layN bs g k; rw [n1, n2], fun n => by show layS bs f j n ++ (layS bs f k (n + layN bs f j) ++ [.str wd]) = layS bs g j n ++ (layS bs g k (n + layN bs g j) ++ [.str wd]); rw [s1, s2, n1]⟩
    | box _ _ => exact ⟨rfl, fun _ => rfl⟩
    | ball _ _ => exact ⟨rfl, fun _ => rfl⟩
    | half _ _ => exact ⟨rfl, fun _ => rfl⟩
theorem layN_snoc {bs : List Body} {b : Body} (h : GBs bs) : ∀ (f i : Nat), i < bs.length → layN (bs ++ [b]) f i = layN bs f i
  | 0, _, _ => rfl
  | f + 1, i, hi => by
    have eb := List.getElem?_eq_getElem hi
    have gb := h i _ eb
    have ea : (bs ++ [b])[i]? = some bs[i] := by rw [List.getElem?_append_left hi]; exact eb
    unfold layN
    rw [eb, ea]
    unfold GB at gb
    dsimp only
    generalize bs[i].form = fm at gb
    cases fm with
    | slide j w => exact layN_snoc h f j (by omega)
    | turn j ax c s => exact layN_snoc h f j (by omega)
    | two wd j k => show layN (bs ++ [b]) f j + layN (bs ++ [b]) f k = layN bs f j + layN bs f k; rw [layN_snoc h f j (by omega), layN_snoc h f k (by omega)]
    | box _ _ => rfl
    | ball _ _ => rfl
    | half _ _ => rfl
theorem layS_len {bs : List Body} (h : GBs bs) : ∀ (f i n : Nat), i < bs.length → i < f → (layS bs f i n).length + 1 = 2 * layN bs f i
  | 0, _, _, _, hf => absurd hf (Nat.not_lt_zero _)
  | f + 1, i, n, hi, hf => by
    have eb := List.getElem?_eq_getElem hi
    have gb := h i _ eb
    unfold layN layS
    rw [eb]
    unfold GB at gb
    dsimp only
    generalize bs[i].form = fm at gb
    cases fm with
    | slide j w => exact layS_len h f j n (by omega) (by omega)
    | turn j ax c s => exact layS_len h f j n (by omega) (by omega)
    | two wd j k =>
      have h1 := layS_len h f j n (by omega) (by omega)
      have h2 := layS_len h f k (n + layN bs f j) (by omega) (by omega)
      show (layS bs f j n ++ (layS bs f k (n + layN bs f j) ++ [PyData.str wd])).length + 1 = 2 * (layN bs f j + layN bs f k)
      rw [List.length_append, List.length_append]
      show (layS bs f j n).length + ((layS bs f k (n + layN bs f j)).length + 1) + 1 = _
      omega
    | box _ _ => rfl
    | ball _ _ => rfl
    | half _ _ => rfl
def cnt (bs : List Body) (j : Nat) : Nat := layN bs 12 j
theorem cnt_snoc {bs : List Body} {b : Body} (h : GBs bs) {j : Nat} (hj : j < bs.length) : cnt (bs ++ [b]) j = cnt bs j := layN_snoc h 12 j hj
theorem cnt_two {bs : List Body} {nm wd : Str} {j k : Nat} (h : GBs bs) (g : GB bs.length ⟨nm, .two wd j k⟩) (hl : bs.length < 12) : cnt (bs ++ [⟨nm, .two wd j k⟩]) bs.length = cnt bs j + cnt bs k := by
  obtain ⟨_, hj, hk⟩ := g
  have e : (bs ++ [(⟨nm, .two wd j k⟩ : Body)])[bs.length]? = some ⟨nm, .two wd j k⟩ := by rw [List.getElem?_append_right (Nat.le_refl _), Nat.sub_self]; rfl
  show layN (bs ++ [(⟨nm, .two wd j k⟩ : Body)]) (11 + 1) bs.length = _
  unfold layN
  rw [e]
  show layN _ 11 j + layN _ 11 k = _
  rw [layN_snoc h 11 j hj, layN_snoc h 11 k hk, (lay_fuel h 11 j hj (by omega) 12 (by omega)).1, (lay_fuel h 11 k hk (by omega) 12 (by omega)).1]
  rfl
theorem cnt_one {bs : List Body} {b : Body} {j : Nat} (h : GBs bs) (hl : bs.length < 12) (hb : (∃ w, b.form = .slide j w) ∨ ∃ ax c s, b.form = .turn j ax c s) (hj : j < bs.length) : cnt (bs ++ [b]) bs.length = cnt bs j := by
  have e : (bs ++ [b])[bs.length]? = some b := by rw [List.getElem?_append_right (Nat.le_refl _), Nat.sub_self]; rfl
  show layN (bs ++ [b]) (11 + 1) bs.length = _
  unfold layN
  rw [e]
  rcases hb with ⟨w, hb⟩ | ⟨ax, c, s, hb⟩ <;> dsimp only <;> rw [hb] <;> show layN _ 11 j = _ <;> rw [layN_snoc h 11 j hj, (lay_fuel h 11 j hj (by omega) 12 (by omega)).1] <;> rfl
theorem cnt_leaf {bs : List Body} {b : Body} (hb : LeafF b.form) : cnt (bs ++ [b]) bs.length = 1 := by
  have e : (bs ++ [b])[bs.length]? = some b := by rw [List.getElem?_append_right (Nat.le_refl _), Nat.sub_self]; rfl
  exact (leaf_lay e hb 11 I3 o3).2.1
/-- unlike names -/
def NmU (bs : List Body) : Prop := ∀ (i j : Nat) (b c : Body), bs[i]? = some b → bs[j]? = some c → b.name = c.name → i = j
theorem named_firstU {bs : List Body} {ts : List Thing} {th : Thing} {b : Body} (hN : NmU bs) (hi : ∀ t ∈ ts, t.i < bs.length) (inj : ∀ t ∈ ts, ∀ u ∈ ts, t.i = u.i → t = u) (hth : th ∈ ts) (eb : bs[th.i]? = some b) : ∃ rest, ts.filter (named bs b.name) = th :: rest := by
  refine filter_one hth ?_ fun u hu pu => ?_
  · unfold named; rw [eb]; exact decide_eq_true rfl
  · have hui := hi u hu
    have eu : bs[u.i]? = some bs[u.i] := List.getElem?_eq_getElem hui
    unfold named at pu
    rw [eu] at pu
    have pu := of_decide_eq_true pu
    exact inj u hu th hth (hN u.i th.i _ _ eu eb pu)

/-! ### rows of bodies -/
section
variable {P : Program} {w : World} {K : PySem.W.Frag} {mg : Str → Option Value} {base : Heap}
def NoTwo (bs : List Body) : Prop := ∀ (i : Nat) (b : Body), bs[i]? = some b → ∀ (wd : Str) (j k : Nat), b.form ≠ Form.two wd j k
theorem one_leaf {bs : List Body} (h : GBs bs) (h2 : NoTwo bs) : ∀ (f i : Nat), i < bs.length → i < f → layN bs f i = 1 ∧ ∀ n, layS bs f i n = [.int (n : Int)]
  | 0, _, _, hf => absurd hf (Nat.not_lt_zero _)
  | f + 1, i, hi, hf => by
    have eb := List.getElem?_eq_getElem hi
    have gb := h i _ eb
    have nb := h2 i _ eb
    unfold layN layS
    rw [eb]
    unfold GB at gb
    dsimp only
    generalize bs[i].form = fm at gb nb
    cases fm with
    | slide j w => exact one_leaf h h2 f j (by omega) (by omega)
    | turn j ax c s => exact one_leaf h h2 f j (by omega) (by omega)
    | two wd j k => exact absurd rfl (nb wd j k)
    | box _ _ => exact ⟨rfl, fun _ => rfl⟩
    | ball _ _ => exact ⟨rfl, fun _ => rfl⟩
    | half _ _ => exact ⟨rfl, fun _ => rfl⟩
theorem gb_leaf {i : Nat} {nm : Str} {f : Form} (h : LeafF f) : GB i ⟨nm, f⟩ := by
  cases f <;> first | exact h.elim | exact h
theorem leaf_no2 {f : Form} (h : LeafF f) : ∀ wd j k, f ≠ .two wd j k := fun wd j k e => by subst e; exact h.elim
theorem snoc_at {bs : List Body} {b c : Body} {j : Nat} (e : (bs ++ [b])[j]? = some c) : bs[j]? = some c ∨ (j = bs.length ∧ c = b) := by
  rw [List.getElem?_append] at e
  split at e
  · exact .inl e
  · next hj =>
    have : j = bs.length := by
      have := (List.getElem?_eq_some_iff.mp e).1
      simp only [List.length_singleton] at this
      omega
    subst this
    rw [Nat.sub_self] at e
    cases e
    exact .inr ⟨rfl, rfl⟩
theorem str1_inj {a b : Nat} (h : (⟨#[a]⟩ : Str) = ⟨#[b]⟩) : a = b := by
  injection h with h
  have := congrArg Array.toList h
  injection this
end

/-! ### counts of leaves as the laws keep them -/
section
variable {P : Program} {w : World} {K : PySem.W.Frag} {mg : Str → Option Value} {base : Heap}
def Cts (cvs : List V) (bs : List Body) : Prop := cvs.length = bs.length ∧ ∀ j, j < bs.length → cvs[j]? = some (.int ((cnt bs j : Nat) : Int))
theorem Cts.snoc {cvs : List V} {bs : List Body} {b : Body} {c : Int} (h : GBs bs) (hc : Cts cvs bs) (e : c = ((cnt (bs ++ [b]) bs.length : Nat) : Int)) : Cts (cvs ++ [.int c]) (bs ++ [b]) := by
  obtain ⟨h1, h2⟩ := hc
  refine ⟨by rw [List.length_append, List.length_append, h1]; rfl, fun j hj => ?_⟩
  rw [List.length_append] at hj
  by_cases hj' : j < bs.length
  · rw [List.getElem?_append_left (by omega), cnt_snoc h hj']
    exact h2 j hj'
  · have hj : j < bs.length + 1 := hj
    have : j = bs.length := by omega
    subst this
    rw [← h1, List.getElem?_append_right (Nat.le_refl _), Nat.sub_self, h1, e]
    rfl
theorem rx_cts {H : Hp} {CL : Addr} {cvs : List V} {bs : List Body} {j : Nat} {Q : VK} (hL : H CL = some (.lst cvs)) (h : Cts cvs bs) (hj : j < bs.length) (q : Q (.int ((cnt bs j : Nat) : Int)) H) : rIxL K (.ref CL) (.int ((j : Nat) : Int)) H Q :=
  ⟨CL, cvs, _, _, rfl, rfl, SqL.of hL, atI_nat (h.2 j hj), q⟩
theorem join2 {R : L2.St → Hp → Prop} {C : L2.St → Prop} {H : Hp} {G : Prop} (h : (∀ σ, C σ → R σ H) → G) (k : ∀ σ, C σ → R σ H) : G := h k
def word3 : Nat → Str
  | 0 => "join"
  | 1 => "cut"
  | _ => "meet"
theorem word3_ok : ∀ k, word3 k = "join" ∨ word3 k = "cut" ∨ word3 k = "meet"
  | 0 => .inl rfl
  | 1 => .inr (.inl rfl)
  | _ + 2 => .inr (.inr rfl)
end

/-! ### bodies drawn, of all kinds -/
section
variable {P : Program} {w : World} {K : PySem.W.Frag} {mg : Str → Option Value} {base : Heap}
def Nm27 (p : Nat) (bs : List Body) : Prop := ∀ (j : Nat) (b : Body), bs[j]? = some b → b.name = ⟨#[if j < p then 97 + j else 100 + (j - p)]⟩
theorem Nm27.u {p : Nat} {bs : List Body} (hp : p ≤ 3) (h : Nm27 p bs) : NmU bs := fun i j b c e1 e2 e => by
  rw [h i b e1, h j c e2] at e
  have := str1_inj e
  split at this <;> split at this <;> omega
theorem Nm27.snoc {p : Nat} {bs : List Body} {f : Form} {c : Nat} (h : Nm27 p bs) (hc : c = if bs.length < p then 97 + bs.length else 100 + (bs.length - p)) : Nm27 p (bs ++ [⟨⟨#[c]⟩, f⟩]) := fun j b e => by
  rcases snoc_at e with e | ⟨rfl, rfl⟩
  · exact h j b e
  · show (⟨#[c]⟩ : Str) = _
    rw [hc]
theorem abc3_at {k : Nat} (h : k < 3) : atI ("abc" : Str).cps.toList ((k : Nat) : Int) = some (97 + k) := by
  match k, h with
  | 0, _ => decide +kernel
  | 1, _ => decide +kernel
  | 2, _ => decide +kernel
theorem dk_at {k : Nat} (h : k < 8) : atI ("defghijk" : Str).cps.toList ((k : Nat) : Int) = some (100 + k) := by
  match k, h with
  | 0, _ => decide +kernel
  | 1, _ => decide +kernel
  | 2, _ => decide +kernel
  | 3, _ => decide +kernel
  | 4, _ => decide +kernel
  | 5, _ => decide +kernel
  | 6, _ => decide +kernel
  | 7, _ => decide +kernel
def Row27 (bs : List Body) (p i : Nat) : Prop := bs.length = p + i ∧ GBs bs ∧ Nm27 p bs ∧ ∀ j, j < bs.length → cnt bs j ≤ 8
theorem Row27.snoc {bs : List Body} {p i : Nat} {f : Form} (h : Row27 bs p i) (g : GB bs.length ⟨⟨#[100 + i]⟩, f⟩) (hc : cnt (bs ++ [⟨⟨#[100 + i]⟩, f⟩]) bs.length ≤ 8) : Row27 (bs ++ [⟨⟨#[100 + i]⟩, f⟩]) p (i + 1) := by
  obtain ⟨h1, h2, h3, h4⟩ := h
  refine ⟨by rw [List.length_append, h1]; rfl, h2.snoc g, h3.snoc (by rw [if_neg (by omega), h1]; congr 1; omega), fun j hj => ?_⟩
  rw [List.length_append] at hj
  have hj : j < bs.length + 1 := hj
  by_cases hj' : j < bs.length
  · rw [cnt_snoc h2 hj']; exact h4 j hj'
  · have : j = bs.length := by omega
    subst this
    exact hc
def Base27 (bs : List Body) (i p : Nat) : Prop := bs.length = i ∧ (∀ (j : Nat) (b : Body), bs[j]? = some b → b.name = ⟨#[97 + j]⟩ ∧ LeafF b.form)
theorem Base27.row {bs : List Body} {p : Nat} (h : Base27 bs p p) (hp : p ≤ 3) : Row27 bs p 0 ∧ ∀ j, j < bs.length → cnt bs j = 1 := by
  obtain ⟨h1, h2⟩ := h
  have c1 : ∀ j, j < bs.length → cnt bs j = 1 := fun j hj => by
    have e := List.getElem?_eq_getElem hj
    exact (leaf_lay e (h2 j _ e).2 11 I3 o3).2.1
  exact ⟨⟨h1, fun j b e => gb_leaf (h2 j b e).2, fun j b e => by
    rw [(h2 j b e).1, if_pos (by have := (List.getElem?_eq_some_iff.mp e).1; omega)], fun j hj => by rw [c1 j hj]; decide⟩, c1⟩
theorem join3 {R : L2.St → Hp → Prop} {C : L2.St → Hp → Prop} {G : Prop} (h : (∀ σ H, C σ H → R σ H) → G) (k : ∀ σ H, C σ H → R σ H) : G := h k
def sp_bodies (K : PySem.W.Frag) : Sp := fun vs H Q _ => ∃ (d l s : Addr) (ns : List Int) (c p m : Nat), vs = [.ref d, .int ((p : Nat) : Int), .int ((m : Nat) : Int)] ∧ Dk K H d l s ns c ∧ 1 ≤ p ∧ p ≤ 3 ∧ m ≤ 8 ∧ c + 1000 < 2 ^ 30 ∧
  ∀ H' BL bvs bs, Keep d l H H' → Dk K H' d l s ns (c + 300) → H BL = none → BL ≠ d → BL ≠ l → H' BL = some (.lst bvs) → DTs K H' bvs (bs.map eBody) → Row27 bs p m → Q (.ref BL) H'
theorem okD__law_bodies (T : Tx K mg w) : FnOk P w K mg base CX0 7 T.f__law_bodies T.d__law_bodies ["_law_deck_here", "_law_bases", "_law_more"] (sp_bodies K) := by
  have G__law_take := ok__law_take (P := P) (w := w) (base := base) T
  have G__law_base := okD__law_base (P := P) (w := w) (base := base) T
  have G__law_sliding := ok__law_sliding (P := P) (w := w) (base := base) T
  have G__law_turning := ok__law_turning (P := P) (w := w) (base := base) T
  refine T.F__law_bodies.ok sc__law_bodies (fun vs H Q E h => ?_) (fun cdv A outer s0 H vs Q E hr h => ?_)
  · obtain ⟨_, _, _, _, _, _, _, rfl, _⟩ := h
    rfl
  obtain ⟨d, l, s, ns, c, p, m, rfl, D1, hp1, hp3, hm, hc, k⟩ := h
  refine ⟨_, (pss_cons (ps_setLc (i := 3) (own := [("_law_k", 5)]) (g := gName 5) (by rfl) sc__law_bodies.nd rfl rfl (sw_true rfl rfl rfl (by decide +kernel)) (pi_range1 (by rfl) T.m_range (pa_cons (pv 1) pa_nil)) (blkOk_by (own := [("_law_k", 5)]) (N := nm__law_bodies) (sc := defScope s__law_bodies) (by decide +kernel)) (fun _ _ _ _ _ => (pg_name (i := 5) sc__law_bodies.nd rfl (Or.inl rfl))) (fun _ _ _ _ _ => pts_nil) (fun _ _ _ _ _ => (pe_tup (pa_cons (pe_ix ix_str pe_str (pv 5) (fun _ _ => rfl)) (pa_cons (pe_call G__law_base (hr.mono (by first | decide | omega)) (by rfl) T.g__law_base T.F__law_base.kp T.b__law_base .nil pass0 (pa_cons (pv 0) pa_nil)) pa_nil)))))
      (pss_cons (ps_set (i := 4) sc__law_bodies.nd rfl (Or.inl rfl) (pe_op op_rep (pe_lst (pa_cons pe_int pa_nil)) (pv 1)))
      (pss_cons (ps_for PassesOwn.never rfl (pi_range1 (by rfl) T.m_range (pa_cons (pv 2) pa_nil)) (pg_name (i := 5) sc__law_bodies.nd rfl (Or.inl rfl)) (pss_cons (ps_set (i := 6) sc__law_bodies.nd rfl (Or.inl rfl) (pe_call G__law_take (hr.mono (by first | decide | omega)) (by rfl) T.g__law_take T.F__law_take.kp T.b__law_take .nil pass0 (pa_cons (pv 0) (pa_cons (pe_callB call_len_seq (by rfl) T.m_len (by decide +kernel) (pa_cons (pv 3) pa_nil)) pa_nil))))
      (pss_cons (ps_if (pt_cmpR op_gt (pe_call G__law_take (hr.mono (by first | decide | omega)) (by rfl) T.g__law_take T.F__law_take.kp T.b__law_take .nil pass0 (pa_cons (pv 0) (pa_cons pe_int pa_nil))) pe_int (nomark _)) (pss_one (ps_set (i := 6) sc__law_bodies.nd rfl (Or.inl rfl) (pe_op op_sub (pe_op op_sub (pe_callB call_len_seq (by rfl) T.m_len (by decide +kernel) (pa_cons (pv 3) pa_nil)) pe_int) (pe_call G__law_take (hr.mono (by first | decide | omega)) (by rfl) T.g__law_take T.F__law_take.kp T.b__law_take .nil pass0 (pa_cons (pv 0) (pa_cons (pe_callB (call_min2 rfl) (by rfl) T.m_min (by decide +kernel) (pa_cons pe_int (pa_cons (pe_callB call_len_seq (by rfl) T.m_len (by decide +kernel) (pa_cons (pv 3) pa_nil)) pa_nil))) pa_nil)))))) pss_nil)
      (pss_cons (ps_set (i := 7) sc__law_bodies.nd rfl (Or.inl rfl) (pe_call G__law_take (hr.mono (by first | decide | omega)) (by rfl) T.g__law_take T.F__law_take.kp T.b__law_take .nil pass0 (pa_cons (pv 0) (pa_cons (pe_callB call_len_seq (by rfl) T.m_len (by decide +kernel) (pa_cons (pv 3) pa_nil)) pa_nil))))
      (pss_cons (ps_set (i := 8) sc__law_bodies.nd rfl (Or.inl rfl) (pe_call G__law_take (hr.mono (by first | decide | omega)) (by rfl) T.g__law_take T.F__law_take.kp T.b__law_take .nil pass0 (pa_cons (pv 0) (pa_cons pe_int pa_nil))))
      (pss_cons (ps_set (i := 9) sc__law_bodies.nd rfl (Or.inl rfl) (pe_ix ix_str pe_str (pv 5) (fun _ _ => rfl)))
      (pss_one (ps_if (PW.pt (pw_and (pt_cmpR op_lt (pv 8) pe_int (nomark _)) (pw_and1 (pt_cmpR op_le (pe_op op_add (pe_ix ix_list (pv 4) (pv 6) (fun _ _ => rfl)) (pe_ix ix_list (pv 4) (pv 7) (fun _ _ => rfl))) pe_int (nomark _))))) (pss_cons (ps_set (i := 10) sc__law_bodies.nd rfl (Or.inl rfl) (pe_ix ix_list (pe_lst (pa_cons (pe_tup (pa_cons (pv 6) (pa_cons (pv 7) pa_nil))) (pa_cons (pe_tup (pa_cons (pv 7) (pa_cons (pv 6) pa_nil))) pa_nil))) (pe_call G__law_take (hr.mono (by first | decide | omega)) (by rfl) T.g__law_take T.F__law_take.kp T.b__law_take .nil pass0 (pa_cons (pv 0) (pa_cons pe_int pa_nil))) (fun _ _ => rfl)))
      (pss_cons (ps_expr (pe_bm PySem.F.plainAttrs_list PySem.F.slot_list_append PySem.F.type_list_append mt_append (pv 3) (pa_cons (pe_tup (pa_cons (pv 9) (pa_cons (pe_op op_catT (pe_tup (pa_cons (pe_ix ix_list (pe_lst (pa_cons pe_str (pa_cons pe_str (pa_cons pe_str pa_nil)))) (pv 8) (fun _ _ => rfl)) pa_nil)) (pv 10)) pa_nil))) pa_nil)))
      (pss_one (ps_expr (pe_bm PySem.F.plainAttrs_list PySem.F.slot_list_append PySem.F.type_list_append mt_append (pv 4) (pa_cons (pe_op op_add (pe_ix ix_list (pv 4) (pv 6) (fun _ _ => rfl)) (pe_ix ix_list (pv 4) (pv 7) (fun _ _ => rfl))) pa_nil)))))) (pss_cons (ps_expr (pe_bm PySem.F.plainAttrs_list PySem.F.slot_list_append PySem.F.type_list_append mt_append (pv 3) (pa_cons (pe_tup (pa_cons (pv 9) (pa_cons (pe_ix ix_list (pe_lst (pa_cons (pe_call G__law_sliding (hr.mono (by first | decide | omega)) (by rfl) T.g__law_sliding T.F__law_sliding.kp T.b__law_sliding .nil pass0 (pa_cons (pv 0) (pa_cons (pv 6) pa_nil))) (pa_cons (pe_call G__law_turning (hr.mono (by first | decide | omega)) (by rfl) T.g__law_turning T.F__law_turning.kp T.b__law_turning .nil pass0 (pa_cons (pv 0) (pa_cons (pv 6) pa_nil))) pa_nil))) (pe_call G__law_take (hr.mono (by first | decide | omega)) (by rfl) T.g__law_take T.F__law_take.kp T.b__law_take .nil pass0 (pa_cons (pv 0) (pa_cons pe_int pa_nil))) (fun _ _ => rfl)) pa_nil))) pa_nil)))
      (pss_one (ps_expr (pe_bm PySem.F.plainAttrs_list PySem.F.slot_list_append PySem.F.type_list_append mt_append (pv 4) (pa_cons (pe_ix ix_list (pv 4) (pv 6) (fun _ _ => rfl)) pa_nil)))))))))))))
      (pss_one (ps_ret (pv 3)))))), ?_⟩
  rw [show L2.start nm__law_bodies [.ref d, .int ((p : Nat) : Int), .int ((m : Nat) : Int)] = [some (.ref d), some (.int ((p : Nat) : Int)), some (.int ((m : Nat) : Int)), none, none, none, none, none, none, none, none] from rfl]
  refine ⟨_, rfl, _, rfl, by omega, by omega, fun BL nBL => ?_⟩
  have aB := D1.apart nBL
  refine lc_range (lo := 0) (n := ((p : Nat) : Int).toNat) (fun i H' => Keep d l H H' ∧ Dk K H' d l s ns (c + 13 * i) ∧ ∃ bvs bs, H' BL = some (.lst bvs) ∧ DTs K H' bvs (bs.map eBody) ∧ Base27 bs i p) ⟨keep_new nBL, D1.new nBL, [], [], upd_same, .nil, rfl, fun j b e => by cases e⟩ (fun i H' hi q => ?_) (fun H' q => ?_)
  · obtain ⟨kp, Dk', ys, bs, hD, hys, hbl, hb⟩ := q
    have hi3 : i < 3 := by omega
    refine ⟨rfl, _, rfl, _, _, 97 + i, rfl, rfl, by decide +kernel, by rw [Int.zero_add]; exact abc3_at hi3, ?_⟩
    refine ⟨.ref d, rfl, d, l, s, ns, c + 13 * i, rfl, Dk', by omega, fun H3 v f k3 D3 z3 f3 => ?_⟩
    refine ⟨sz_n (by decide : 2 ≤ 1000), fun r hr' => ?_⟩
    have zb : DT K (upd H3 r (.tup [.str ⟨#[97 + i]⟩, v])) (.ref r) (eBody ⟨⟨#[97 + i]⟩, f⟩) := dt2 hr' (.str _) z3
    have tk3 := (k3.tk Dk').trans (tk_new hr' (o := .tup [.str ⟨#[97 + i]⟩, v]))
    have D4 := D3.new hr' (o := .tup [.str ⟨#[97 + i]⟩, v])
    have kp4 := kp.trans (k3.trans (keep_new hr' (o := .tup [.str ⟨#[97 + i]⟩, v])))
    have hD4 : upd H3 r (.tup [.str ⟨#[97 + i]⟩, v]) BL = some (.lst ys) := same_upd hr' _ _ (k3 BL _ hD aB.1 aB.2.1)
    generalize upd H3 r (.tup [.str ⟨#[97 + i]⟩, v]) = H4 at zb tk3 D4 kp4 hD4 ⊢
    have hyl : ys.length = i := by rw [hys.len, List.length_map, hbl]
    refine ⟨ys, hD4, small1000 (by omega), fun a o ho na nl' => ?_, (D4.mono (by omega)).beside aB, _, bs ++ [⟨⟨#[97 + i]⟩, f⟩], upd_same, ?_, by rw [List.length_append, hbl]; rfl, fun j b e => ?_⟩
    · rw [upd_ne (ne_of_none ho nBL)]; exact kp4 a o ho na nl'
    · rw [List.map_append]
      exact ((hys.tk tk3).tk (tk_lst hD4)).append (.cons (zb.tk (tk_lst hD4)) .nil)
    · rcases snoc_at e with e | ⟨rfl, rfl⟩
      · exact hb j b e
      · rw [hbl]; exact ⟨rfl, f3⟩
  obtain ⟨kp, Dk', bvs, bs, gB, hbs, hbase⟩ := q
  rw [Int.toNat_natCast] at Dk' hbase
  obtain ⟨row, c1⟩ := hbase.row hp3
  have bl : bvs.length = bs.length := by rw [hbs.len, List.length_map]
  have bl3 : bs.length = p := hbase.1
  dsimp only [gName, List.set_cons_succ, List.set_cons_zero]
  refine ⟨sz_n (by decide : 1 ≤ 1000), fun q1 hq1 => ?_⟩
  have gB2 := same_upd hq1 (o := .lst [.int 1]) _ _ gB
  have D2' := Dk'.new hq1 (o := .lst [.int 1])
  have kp2 := kp.trans (keep_new hq1 (o := .lst [.int 1]))
  have gc : upd H' q1 (.lst [.int 1]) q1 = some (.lst [.int 1]) := upd_same
  have hbs := hbs.tk (tk_new hq1 (o := .lst [.int 1]))
  generalize upd H' q1 (.lst [.int 1]) = H6 at gB2 D2' gc hbs kp2 ⊢
  refine ⟨_, rfl, q1, _, _, rfl, rfl, gc, by omega, by omega, sz_n (by show 1 * ((p : Nat) : Int).toNat ≤ 1000; omega), fun CL hCL => ?_⟩
  dsimp only [gName, List.set_cons_succ, List.set_cons_zero]
  have eC : (List.replicate ((p : Nat) : Int).toNat [V.int 1]).flatten = List.replicate bs.length (V.int 1) := by
    rw [Int.toNat_natCast, bl3]
    simp
  rw [eC]
  have aC := D2'.apart hCL
  have gB3 := same_upd hCL (o := .lst (List.replicate bs.length (V.int 1))) _ _ gB2
  have kp3 := kp2.trans (keep_new hCL (o := .lst (List.replicate bs.length (V.int 1))))
  have D3' := (D2'.new hCL (o := .lst (List.replicate bs.length (V.int 1)))).mono (show c + 13 * p ≤ c + 40 by omega)
  have gC : upd H6 CL (.lst (List.replicate bs.length (V.int 1))) CL = some (.lst (List.replicate bs.length (V.int 1))) := upd_same
  have hbs := hbs.tk (tk_new hCL (o := .lst (List.replicate bs.length (V.int 1))))
  have nBC : BL ≠ CL := ne_of_none gB2 hCL
  have nCL : H CL = none := by
    cases e : H CL with
    | none => rfl
    | some o => rw [kp2 CL o e aC.1 aC.2.1] at hCL; cases hCL
  generalize upd H6 CL (.lst (List.replicate bs.length (V.int 1))) = H7 at gB3 D3' gC hbs kp3 ⊢
  have cts0 : Cts (List.replicate bs.length (V.int 1)) bs := ⟨List.length_replicate, fun j hj => by
    rw [List.getElem?_replicate, if_pos hj, c1 j hj]; rfl⟩
  generalize List.replicate bs.length (V.int 1) = cvs0 at gC cts0
  refine ⟨_, rfl, _, rfl, by omega, by omega, ?_⟩
  refine for_range (lo := 0) (n := ((m : Nat) : Int).toNat) (fun i σ H' => ∃ bvs bs cvs v5 v6 v7 v8 v9 v10, σ = [some (.ref d), some (.int ((p : Nat) : Int)), some (.int ((m : Nat) : Int)), some (.ref BL), some (.ref CL), v5, v6, v7, v8, v9, v10] ∧ Keep d l H H' ∧ Dk K H' d l s ns (c + 40 + 20 * i) ∧ H' BL = some (.lst bvs) ∧ DTs K H' bvs (bs.map eBody) ∧ H' CL = some (.lst cvs) ∧ Cts cvs bs ∧ Row27 bs p i)
    ⟨_, bs, _, _, _, _, _, _, _, rfl, kp3, D3', gB3, hbs, gC, cts0, row⟩ (fun i σ H' hi q => ?_) (fun σ H' q => ?_)
  · obtain ⟨bvs, bs, cvs, v5, v6, v7, v8, v9, v10, rfl, kp, D', gB, hbs, gC, hc, row⟩ := q
    have hi8 : i < 8 := by omega
    have hL : bs.length = p + i := row.1
    have bl : bvs.length = bs.length := by rw [hbs.len, List.length_map]
    dsimp only [gName, List.set_cons_succ, List.set_cons_zero]
    rw [Int.zero_add]
    refine ⟨.ref d, rfl, .ref BL, rfl, BL, _, rfl, .inl (SqL.of gB), d, l, s, ns, c + 40 + 20 * i, _, rfl, D', by omega, by omega, by omega, fun H6 e k6 D6 e0 e1 => ?_⟩
    obtain ⟨ei, rfl⟩ : ∃ ei : Nat, e = ((ei : Nat) : Int) := ⟨e.toNat, by omega⟩
    dsimp only [gName, List.set_cons_succ, List.set_cons_zero]
    have gB6 := k6 BL _ gB aB.1 aB.2.1
    have gC6 := k6 CL _ gC aC.1 aC.2.1
    refine ⟨.ref d, rfl, d, l, s, ns, c + 40 + 20 * i + 1, 3, rfl, D6, by omega, by decide, by decide, fun H7 g k7 D7 g0 g1 => rd_c (rd_i0 ⟨_, rfl, ?_⟩)⟩
    have gB7 := k7 BL _ gB6 aB.1 aB.2.1
    have gC7 := k7 CL _ gC6 aC.1 aC.2.1
    have hb7 := hbs.tk ((k6.tk D').trans (k7.tk D6))
    have kp7 := kp.trans (k6.trans k7)
    refine join3 (C := fun σ H' => ∃ a : Nat, σ = [some (.ref d), some (.int ((p : Nat) : Int)), some (.int ((m : Nat) : Int)), some (.ref BL), some (.ref CL), some (.int ((i : Nat) : Int)), some (.int ((a : Nat) : Int)), v7, v8, v9, v10] ∧ a < bs.length ∧ Keep d l H7 H' ∧ Dk K H' d l s ns (c + 40 + 20 * i + 3)) (fun rest => ite2 (fun e => ?gA) (fun e => rest _ H7 ⟨ei, rfl, by omega, Keep.refl, D7.mono (by omega)⟩)) ?gR
    case gA =>
      refine ⟨.ref BL, rfl, BL, _, rfl, .inl (SqL.of gB7), _, _, rfl, rfl, .ref d, rfl, .ref BL, rfl, BL, _, rfl, .inl (SqL.of gB7), _, _, rfl, d, l, s, ns, c + 40 + 20 * i + 2, _, rfl, D7, by omega, by split <;> omega, by split <;> omega, fun H8 e' k8 D8 e0' e1' => ⟨_, _, rfl, rfl, ?_⟩⟩
      obtain ⟨ej, rfl⟩ : ∃ ej : Nat, e' = ((ej : Nat) : Int) := ⟨e'.toNat, by omega⟩
      have e1' : ((ej : Nat) : Int) < ((bvs.length : Nat) : Int) := by split at e1' <;> omega
      dsimp only [gName, List.set_cons_succ, List.set_cons_zero]
      rw [show ((bvs.length : Nat) : Int) - 1 - ((ej : Nat) : Int) = ((bs.length - 1 - ej : Nat) : Int) by omega]
      exact rest _ H8 ⟨bs.length - 1 - ej, rfl, by omega, k8, D8⟩
    case gR =>
      intro σ H8 hσ
      obtain ⟨a, rfl, ha, k8, D8⟩ := hσ
      have gB8 := k8 BL _ gB7 aB.1 aB.2.1
      have gC8 := k8 CL _ gC7 aC.1 aC.2.1
      refine ⟨.ref d, rfl, .ref BL, rfl, BL, _, rfl, .inl (SqL.of gB8), d, l, s, ns, c + 40 + 20 * i + 3, _, rfl, D8, by omega, by omega, by omega, fun H9 e' k9 D9 e0' e1' => ?_⟩
      obtain ⟨b, rfl⟩ : ∃ b : Nat, e' = ((b : Nat) : Int) := ⟨e'.toNat, by omega⟩
      have hb : b < bs.length := by omega
      dsimp only [gName, List.set_cons_succ, List.set_cons_zero]
      refine ⟨.ref d, rfl, d, l, s, ns, c + 40 + 20 * i + 4, 5, rfl, D9, by omega, by decide, by decide, fun H10 wy k10 D10 w0 w1 => ?_⟩
      dsimp only [gName, List.set_cons_succ, List.set_cons_zero]
      refine ⟨_, rfl, _, _, 100 + i, rfl, rfl, by decide +kernel, dk_at hi8, ?_⟩
      dsimp only [gName, List.set_cons_succ, List.set_cons_zero]
      have gB10 := k10 BL _ (k9 BL _ gB8 aB.1 aB.2.1) aB.1 aB.2.1
      have gC10 := k10 CL _ (k9 CL _ gC8 aC.1 aC.2.1) aC.1 aC.2.1
      have hb10 := hb7.tk ((k8.tk D7).trans ((k9.tk D8).trans (k10.tk D9)))
      have kp10 := kp7.trans (k8.trans (k9.trans k10))
      -- the end of both ways
      have fin : ∀ (H11 : Hp) (r2 : Addr) (f : Form), Keep d l H10 H11 → Dk K H11 d l s ns (c + 40 + 20 * i + 18) → DT K H11 (.ref r2) (eBody ⟨⟨#[100 + i]⟩, f⟩) → GB bs.length ⟨⟨#[100 + i]⟩, f⟩ → ∀ cc : Nat, cc ≤ 8 → cnt (bs ++ [⟨⟨#[100 + i]⟩, f⟩]) bs.length = cc →
          Keep d l H (upd (upd H11 BL (.lst (bvs ++ [.ref r2]))) CL (.lst (cvs ++ [.int ((cc : Nat) : Int)]))) ∧ Dk K (upd (upd H11 BL (.lst (bvs ++ [.ref r2]))) CL (.lst (cvs ++ [.int ((cc : Nat) : Int)]))) d l s ns (c + 40 + 20 * (i + 1)) ∧ (upd (upd H11 BL (.lst (bvs ++ [.ref r2]))) CL (.lst (cvs ++ [.int ((cc : Nat) : Int)]))) BL = some (.lst (bvs ++ [.ref r2])) ∧ DTs K (upd (upd H11 BL (.lst (bvs ++ [.ref r2]))) CL (.lst (cvs ++ [.int ((cc : Nat) : Int)]))) (bvs ++ [.ref r2]) ((bs ++ [(⟨⟨#[100 + i]⟩, f⟩ : Body)]).map eBody) ∧ (upd (upd H11 BL (.lst (bvs ++ [.ref r2]))) CL (.lst (cvs ++ [.int ((cc : Nat) : Int)]))) CL = some (.lst (cvs ++ [.int ((cc : Nat) : Int)])) ∧ Cts (cvs ++ [.int ((cc : Nat) : Int)]) (bs ++ [⟨⟨#[100 + i]⟩, f⟩]) ∧ Row27 (bs ++ [⟨⟨#[100 + i]⟩, f⟩]) p (i + 1) := fun H11 r2 f k11 D11 zr g cc hcc ecc => by
        have gB11 := k11 BL _ gB10 aB.1 aB.2.1
        have gC11 := k11 CL _ gC10 aC.1 aC.2.1
        have gC12 : upd H11 BL (.lst (bvs ++ [.ref r2])) CL = some (.lst cvs) := by rw [upd_ne nBC.symm]; exact gC11
        refine ⟨fun x o ho na nl' => ?_, ((D11.beside aB).beside aC).mono (by omega), by rw [upd_ne nBC, upd_same], ?_, upd_same, hc.snoc row.2.1 (by rw [ecc]), row.snoc g (by rw [ecc]; exact hcc)⟩
        · rw [upd_ne (ne_of_none ho nCL), upd_ne (ne_of_none ho nBL)]
          exact k11 x o (kp10 x o ho na nl') na nl'
        · rw [List.map_append]
          exact (((hb10.tk (k11.tk D10)).tk (tk_lst gB11)).tk (tk_lst gC12)).append (.cons ((zr.tk (tk_lst gB11)).tk (tk_lst gC12)) .nil)
      refine ⟨_, rfl, rd_c (rd_i0 ⟨_, rfl, ?_⟩)⟩
      refine (fun rest => ite2 (fun e1 => ?gT) (fun e1 => iteF rest)) ?gE
      case gT =>
        have e1 := of_decide_eq_true e1
        refine ⟨_, rfl, _, rfl, rx_cts gC10 hc ha ?_⟩
        refine ⟨_, rfl, _, rfl, rx_cts gC10 hc hb (rd_i0 (rd_c (rd_i0 ⟨_, rfl, ite2 (fun e2 => ?_) (fun e2 => rest)⟩)))⟩
        have e2 := of_decide_eq_true e2
        -- pair
        refine ⟨_, rfl, _, rfl, sz_n (by decide : 2 ≤ 1000), fun r1 hr1 => ?_⟩
        have z1 : DT K (upd H10 r1 (.tup [.int ((a : Nat) : Int), .int ((b : Nat) : Int)])) (.ref r1) (.tuple [.int ((a : Nat) : Int), .int ((b : Nat) : Int)]) := dt2 hr1 (.int _) (.int _)
        have S1 := same_upd hr1 (o := .tup [.int ((a : Nat) : Int), .int ((b : Nat) : Int)])
        generalize upd H10 r1 (.tup [.int ((a : Nat) : Int), .int ((b : Nat) : Int)]) = Ha at z1 S1 ⊢
        refine ⟨_, rfl, _, rfl, sz_n (by decide : 2 ≤ 1000), fun r2 hr2 => ?_⟩
        have z2 : DT K (upd Ha r2 (.tup [.int ((b : Nat) : Int), .int ((a : Nat) : Int)])) (.ref r2) (.tuple [.int ((b : Nat) : Int), .int ((a : Nat) : Int)]) := dt2 hr2 (.int _) (.int _)
        have z1 := z1.same (same_upd hr2 (o := .tup [.int ((b : Nat) : Int), .int ((a : Nat) : Int)]))
        have S2 := S1.trans (same_upd hr2 (o := .tup [.int ((b : Nat) : Int), .int ((a : Nat) : Int)]))
        generalize upd Ha r2 (.tup [.int ((b : Nat) : Int), .int ((a : Nat) : Int)]) = Hb at z1 z2 S2 ⊢
        refine ⟨sz_n (by decide : 2 ≤ 1000), fun PL hPL => ?_⟩
        have Db := D10.same S2
        have aP := Db.apart hPL
        refine ⟨.ref d, rfl, d, l, s, ns, c + 40 + 20 * i + 5, 2, rfl, Db.new hPL, by omega, by decide, by decide, fun H11 e' k11 D11 e0' e1' => ?_⟩
        have gP := k11 PL _ upd_same aP.1 aP.2.1
        have t11 : TK Hb H11 := (tk_new hPL).trans (k11.tk (Db.new hPL))
        have kA : Keep d l H10 H11 := (same_keep S2).trans ((keep_new hPL).trans k11)
        obtain ⟨vp, a', b', hx, zp, ha', hb', hab⟩ : ∃ vp a' b', atI [V.ref r1, V.ref r2] e' = some vp ∧ DT K H11 vp (.tuple [.int ((a' : Nat) : Int), .int ((b' : Nat) : Int)]) ∧ a' < bs.length ∧ b' < bs.length ∧ cnt bs a' + cnt bs b' = cnt bs a + cnt bs b := by
          have : e' = 0 ∨ e' = 1 := by omega
          rcases this with rfl | rfl
          · exact ⟨_, a, b, rfl, z1.tk t11, ha, hb, rfl⟩
          · exact ⟨_, b, a, rfl, z2.tk t11, hb, ha, Nat.add_comm _ _⟩
        refine ⟨PL, _, e', vp, rfl, rfl, SqL.of gP, hx, ?_⟩
        dsimp only [gName, List.set_cons_succ, List.set_cons_zero]
        have gB11 := kA BL _ gB10 aB.1 aB.2.1
        refine ⟨.ref BL, rfl, .inl ⟨rfl, _, SqL.of gB11⟩, _, rfl, ?_⟩
        refine ⟨sz_n (by decide : 3 ≤ 1000), fun w3 hw3 => ?_⟩
        obtain ⟨ek, hxw⟩ : ∃ ek, atI [V.str "join", V.str "cut", V.str "meet"] wy = some (.str (word3 ek)) := by
          have : wy = 0 ∨ wy = 1 ∨ wy = 2 := by omega
          rcases this with rfl | rfl | rfl
          · exact ⟨0, rfl⟩
          · exact ⟨1, rfl⟩
          · exact ⟨2, rfl⟩
        refine ⟨_, rfl, w3, _, _, _, rfl, rfl, SqL.of upd_same, hxw, sz_n (by decide : 1 ≤ 1000), fun r3 hr3 => ?_⟩
        have S3 := (same_upd hw3 (o := .lst [.str "join", .str "cut", .str "meet"])).trans (same_upd hr3 (o := .tup [.str (word3 ek)]))
        have g3 : upd (upd H11 w3 (.lst [.str "join", .str "cut", .str "meet"])) r3 (.tup [.str (word3 ek)]) r3 = some (.tup [.str (word3 ek)]) := upd_same
        generalize upd (upd H11 w3 (.lst [.str "join", .str "cut", .str "meet"])) r3 (.tup [.str (word3 ek)]) = H12 at S3 g3 ⊢
        obtain ⟨pa, ps, rfl, hpa, hps⟩ := DT.inv (zp.same S3)
        cases hps with
        | cons p1 hps => cases hps with
          | cons p2 hps =>
            cases hps
            cases p1.int_inv
            cases p2.int_inv
            refine ⟨_, rfl, r3, pa, _, _, rfl, rfl, SqT.of g3, hpa.sq, (fun z => by cases z), sz_n (by decide : 3 ≤ 1000), (fun z => by cases z), fun _ r4 hr4 => ⟨sz_n (by decide : 2 ≤ 1000), fun r5 hr5 => ?_⟩⟩
            have z4 : DT K (upd H12 r4 (.tup ([.str (word3 ek)] ++ [.int ((a' : Nat) : Int), .int ((b' : Nat) : Int)]))) (.ref r4) (eForm (.two (word3 ek) a' b')) := dt3 hr4 (.str _) (.int _) (.int _)
            have S4 := S3.trans (same_upd hr4 (o := .tup ([.str (word3 ek)] ++ [.int ((a' : Nat) : Int), .int ((b' : Nat) : Int)])))
            generalize upd H12 r4 (.tup ([.str (word3 ek)] ++ [.int ((a' : Nat) : Int), .int ((b' : Nat) : Int)])) = H13 at z4 S4 hr5 ⊢
            have z5 : DT K (upd H13 r5 (.tup [.str ⟨#[100 + i]⟩, .ref r4])) (.ref r5) (eBody ⟨⟨#[100 + i]⟩, .two (word3 ek) a' b'⟩) := dt2 hr5 (.str _) z4
            have S5 := S4.trans (same_upd hr5 (o := .tup [.str ⟨#[100 + i]⟩, .ref r4]))
            generalize upd H13 r5 (.tup [.str ⟨#[100 + i]⟩, .ref r4]) = H14 at z5 S5 ⊢
            have gB14 := S5 _ _ gB11
            have gC14 := S5 _ _ (kA CL _ gC10 aC.1 aC.2.1)
            refine ⟨BL, bvs, .ref r5, rfl, rfl, gB14, small1000 (by omega), ?_⟩
            have gC15 : upd H14 BL (.lst (bvs ++ [.ref r5])) CL = some (.lst cvs) := by rw [upd_ne nBC.symm]; exact gC14
            have gg : GB bs.length ⟨⟨#[100 + i]⟩, .two (word3 ek) a' b'⟩ := ⟨word3_ok ek, ha', hb'⟩
            have fn := fin H14 r5 (.two (word3 ek) a' b') (kA.trans (same_keep S5)) ((D11.same S5).mono (by omega)) z5 gg (cnt bs a + cnt bs b) (by omega) (by rw [cnt_two row.2.1 gg (by omega)]; exact hab)
            refine ⟨.ref CL, rfl, .inl ⟨rfl, _, SqL.of gC15⟩, ?_⟩
            refine ⟨_, rfl, _, rfl, rx_cts gC15 hc ha ?_⟩
            refine ⟨_, rfl, _, rfl, rx_cts gC15 hc hb (rd_i0 ?_)⟩
            rw [show ((cnt bs a : Nat) : Int) + ((cnt bs b : Nat) : Int) = ((cnt bs a + cnt bs b : Nat) : Int) by omega]
            refine ⟨CL, cvs, _, rfl, rfl, gC15, small1000 (by rw [hc.1]; omega), ?_⟩
            exact ⟨_, _, _, _, _, _, _, _, _, rfl, fn⟩
      case gE =>
        refine ⟨.ref BL, rfl, .inl ⟨rfl, _, SqL.of gB10⟩, _, rfl, ?_⟩
        refine ⟨.ref d, rfl, _, rfl, d, l, s, ns, c + 40 + 20 * i + 5, a, rfl, D10, by omega, fun H11 vf f k11 D11 z11 g11 n11 => ?_⟩
        refine ⟨.ref d, rfl, _, rfl, d, l, s, ns, c + 40 + 20 * i + 11, a, rfl, D11, by omega, fun H12 vg g k12 D12 z12 g12 n12 => ⟨sz_n (by decide : 2 ≤ 1000), fun W hW => ?_⟩⟩
        have aW := D12.apart hW
        refine ⟨.ref d, rfl, d, l, s, ns, c + 40 + 20 * i + 17, 2, rfl, D12.new hW, by omega, by decide, by decide, fun H13 e' k13 D13 e0' e1' => ?_⟩
        have gW := k13 W _ upd_same aW.1 aW.2.1
        have t13 : TK H12 H13 := (tk_new hW).trans (k13.tk (D12.new hW))
        have kA : Keep d l H10 H13 := k11.trans (k12.trans ((keep_new hW).trans k13))
        obtain ⟨vh, h', hx, zh, gh, nh⟩ : ∃ vh h', atI [vf, vg] e' = some vh ∧ DT K H13 vh (eForm h') ∧ (∀ j nm, a < j → GB j ⟨nm, h'⟩) ∧ ((∃ w, h' = .slide a w) ∨ ∃ ax c s, h' = .turn a ax c s) := by
          have : e' = 0 ∨ e' = 1 := by omega
          rcases this with rfl | rfl
          · exact ⟨vf, f, rfl, (z11.tk (k12.tk D11)).tk t13, g11, n11⟩
          · exact ⟨vg, g, rfl, z12.tk t13, g12, n12⟩
        refine ⟨W, _, e', vh, rfl, rfl, SqL.of gW, hx, sz_n (by decide : 2 ≤ 1000), fun r5 hr5 => ?_⟩
        have z5 : DT K (upd H13 r5 (.tup [.str ⟨#[100 + i]⟩, vh])) (.ref r5) (eBody ⟨⟨#[100 + i]⟩, h'⟩) := dt2 hr5 (.str _) zh
        have S5 := same_upd hr5 (o := .tup [.str ⟨#[100 + i]⟩, vh])
        generalize upd H13 r5 (.tup [.str ⟨#[100 + i]⟩, vh]) = H14 at z5 S5 ⊢
        have gB14 := S5 _ _ (kA BL _ gB10 aB.1 aB.2.1)
        have gC14 := S5 _ _ (kA CL _ gC10 aC.1 aC.2.1)
        refine ⟨BL, bvs, .ref r5, rfl, rfl, gB14, small1000 (by omega), ?_⟩
        have gC15 : upd H14 BL (.lst (bvs ++ [.ref r5])) CL = some (.lst cvs) := by rw [upd_ne nBC.symm]; exact gC14
        have fn := fin H14 r5 h' (kA.trans (same_keep S5)) ((D13.same S5).mono (by omega)) z5 (gh _ _ ha) (cnt bs a) (row.2.2.2 a ha) (cnt_one row.2.1 (by omega) nh ha)
        refine ⟨.ref CL, rfl, .inl ⟨rfl, _, SqL.of gC15⟩, ?_⟩
        refine ⟨_, rfl, _, rfl, rx_cts gC15 hc ha ?_⟩
        refine ⟨CL, cvs, _, rfl, rfl, gC15, small1000 (by rw [hc.1]; omega), ?_⟩
        exact ⟨_, _, _, _, _, _, _, _, _, rfl, fn⟩
  · obtain ⟨bvs, bs, cvs, v5, v6, v7, v8, v9, v10, rfl, kp, D', gB, hbs, gC, hc, row⟩ := q
    rw [Int.toNat_natCast] at row D'
    exact ⟨_, rfl, k _ BL bvs bs kp (D'.mono (by omega)) nBL aB.1 aB.2.1 gB hbs row⟩
end

/-! ### all kinds of bodies laid -/
section
variable {P : Program} {w : World} {K : PySem.W.Frag} {mg : Str → Option Value} {base : Heap}
def ThOk (bs : List Body) (ts : List Thing) : Prop := (∀ t ∈ ts, t.i < bs.length ∧ t.move.F 42 378) ∧ ∀ t ∈ ts, ∀ u ∈ ts, t.i = u.i → t = u
def seenV (ts : List Thing) : List V := ts.map fun t => .int ((t.i : Nat) : Int)
theorem seen_flat (ts : List Thing) : (seenV ts).all flatV = true := by
  unfold seenV
  rw [List.all_eq_true]
  intro x hx
  obtain ⟨t, _, rfl⟩ := List.mem_map.mp hx
  rfl
theorem not_seen {ts : List Thing} {n : Nat} (h : inV (.int ((n : Nat) : Int)) (seenV ts) = false) : ∀ t ∈ ts, t.i ≠ n := fun t ht e => by
  have : inV (.int ((n : Nat) : Int)) (seenV ts) = true := by
    unfold inV seenV
    rw [List.any_eq_true]
    refine ⟨.int ((t.i : Nat) : Int), List.mem_map.mpr ⟨t, ht, rfl⟩, ?_⟩
    show (((t.i : Nat) : Int) == ((n : Nat) : Int)) = true
    rw [e]; exact beq_self_eq_true _
  rw [this] at h
  cases h
theorem ThOk.snoc {bs : List Body} {ts : List Thing} {t : Thing} (h : ThOk bs ts) (hi : t.i < bs.length) (hm : t.move.F 42 378) (hn : ∀ u ∈ ts, u.i ≠ t.i) : ThOk bs (ts ++ [t]) := by
  refine ⟨fun u hu => ?_, fun u hu v hv e => ?_⟩
  · rcases List.mem_append.mp hu with hu | hu
    · exact h.1 u hu
    · rw [List.mem_singleton.mp hu]; exact ⟨hi, hm⟩
  · rcases List.mem_append.mp hu with hu | hu <;> rcases List.mem_append.mp hv with hv | hv
    · exact h.2 u hu v hv e
    · rw [List.mem_singleton.mp hv] at e; exact absurd e (hn u hu)
    · rw [List.mem_singleton.mp hu] at e; exact absurd e.symm (hn v hv)
    · rw [List.mem_singleton.mp hu, List.mem_singleton.mp hv]
theorem ok_law {f : Addr} {fd : FuncData} (F : Fun K "law" "law" s_law f fd) (T : Tx K mg w) : FnOk P w K mg base CX0 21 f fd ["_law_script"] (sp_law K) := by
  have G__law_deck := ok__law_deck (P := P) (w := w) (base := base) T
  have G__law_take := ok__law_take (P := P) (w := w) (base := base) T
  have G__law_point := okD__law_point (P := P) (w := w) (base := base) T
  have G__law_number := okD__law_number (P := P) (w := w) (base := base) T
  have G__law_bodies := okD__law_bodies (P := P) (w := w) (base := base) T
  have G__law_many := okD__law_many (P := P) (w := w) (base := base) T
  have G__law_laid := ok__law_laid (P := P) (w := w) (base := base) T
  have G__law_alike := tw_alike (P := P) (w := w) (base := base) T 10
  have G_laid_out := okD_laid_out (P := P) (w := w) (base := base) T
  refine F.ok sc_law (fun vs H Q E h => ?_) (fun cdv A outer s0 H vs Q E hr h => ?_)
  · obtain ⟨_, _, rfl, _⟩ := h
    rfl
  obtain ⟨s, ns, rfl, hS, hlen, k⟩ := h
  refine ⟨_, (pss_cons (ps_set (i := 1) sc_law.nd rfl (Or.inl rfl) (pe_call G__law_deck (hr.mono (by first | decide | omega)) (by rfl) T.g__law_deck T.F__law_deck.kp T.b__law_deck .nil pass0 (pa_cons (pv 0) pa_nil)))
      (pss_cons (ps_set (i := 2) sc_law.nd rfl (Or.inl rfl) (pe_call G__law_bodies (hr.mono (by first | decide | omega)) (by rfl) T.g__law_bodies T.F__law_bodies.kp T.b__law_bodies .nil pass0 (pa_cons (pv 1) (pa_cons (pe_op op_add pe_int (pe_call G__law_take (hr.mono (by first | decide | omega)) (by rfl) T.g__law_take T.F__law_take.kp T.b__law_take .nil pass0 (pa_cons (pv 1) (pa_cons pe_int pa_nil)))) (pa_cons (pe_call G__law_take (hr.mono (by first | decide | omega)) (by rfl) T.g__law_take T.F__law_take.kp T.b__law_take .nil pass0 (pa_cons (pv 1) (pa_cons pe_int pa_nil))) pa_nil)))))
      (pss_cons (ps_set (i := 3) sc_law.nd rfl (Or.inl rfl) (pe_lst pa_nil))
      (pss_cons (ps_set (i := 4) sc_law.nd rfl (Or.inl rfl) (pe_lst pa_nil))
      (pss_cons (ps_for PassesOwn.never rfl (pi_range1 (by rfl) T.m_range (pa_cons pe_int pa_nil)) (pg_name (i := 5) sc_law.nd rfl (Or.inl rfl)) (pss_cons (ps_set (i := 6) sc_law.nd rfl (Or.inl rfl) (pe_op op_sub (pe_op op_sub (pe_callB call_len_seq (by rfl) T.m_len (by decide +kernel) (pa_cons (pv 2) pa_nil)) pe_int) (pe_call G__law_take (hr.mono (by first | decide | omega)) (by rfl) T.g__law_take T.F__law_take.kp T.b__law_take .nil pass0 (pa_cons (pv 1) (pa_cons (pe_callB (call_min2 rfl) (by rfl) T.m_min (by decide +kernel) (pa_cons pe_int (pa_cons (pe_callB call_len_seq (by rfl) T.m_len (by decide +kernel) (pa_cons (pv 2) pa_nil)) pa_nil))) pa_nil)))))
      (pss_one (ps_if (pt_cmpR op_notIn_seq (pv 6) (pv 4) (by rfl)) (pss_cons (ps_expr (pe_bm PySem.F.plainAttrs_list PySem.F.slot_list_append PySem.F.type_list_append mt_append (pv 4) (pa_cons (pv 6) pa_nil)))
      (pss_one (ps_expr (pe_bm PySem.F.plainAttrs_list PySem.F.slot_list_append PySem.F.type_list_append mt_append (pv 3) (pa_cons (pe_tup (pa_cons (pv 6) (pa_cons pe_str (pa_cons (pe_cmpR op_eq (pe_call G__law_take (hr.mono (by first | decide | omega)) (by rfl) T.g__law_take T.F__law_take.kp T.b__law_take .nil pass0 (pa_cons (pv 1) (pa_cons pe_int pa_nil))) pe_int (nomark _)) (pa_cons (pe_call G__law_point (hr.mono (by first | decide | omega)) (by rfl) T.g__law_point T.F__law_point.kp T.b__law_point .nil pass0 (pa_cons (pv 1) pa_nil)) pa_nil))))) pa_nil))))) pss_nil))))
      (pss_cons (ps_set (i := 7) sc_law.nd rfl (Or.inl rfl) (pe_tup (pa_cons (pe_callTy call_tuple_of (by rfl) T.m_tuple (by decide +kernel) (pa_cons (pv 2) pa_nil)) (pa_cons (pe_callTy call_tuple_of (by rfl) T.m_tuple (by decide +kernel) (pa_cons (pv 3) pa_nil)) (pa_cons (pe_tup pa_nil) (pa_cons (pe_tup pa_nil) pa_nil))))))
      (pss_cons (ps_for PassesOwn.never rfl (pi_list (pv 3)) (pg_tup (by rfl) (pgs_cons (pg_name (i := 6) sc_law.nd rfl (Or.inl rfl)) (pgs_cons (pg_name (i := 8) sc_law.nd rfl (Or.inl rfl)) (pgs_cons (pg_name (i := 9) sc_law.nd rfl (Or.inl rfl)) (pgs_cons (pg_name (i := 10) sc_law.nd rfl (Or.inl rfl)) pgs_nil))))) (pss_cons (ps_set (i := 11) sc_law.nd rfl (Or.inl rfl) (pe_call G__law_number (hr.mono (by first | decide | omega)) (by rfl) T.g__law_number T.F__law_number.kp T.b__law_number .nil pass0 (pa_cons (pv 1) pa_nil)))
      (pss_cons (ps_set (i := 12) sc_law.nd rfl (Or.inl rfl) (pe_call G__law_laid (hr.mono (by first | decide | omega)) (by rfl) T.g__law_laid T.F__law_laid.kp T.b__law_laid .nil pass0 (pa_cons (pv 2) (pa_cons (pv 6) (pa_cons (pe_call G__law_many (hr.mono (by first | decide | omega)) (by rfl) T.g__law_many T.F__law_many.kp T.b__law_many .nil pass0 (pa_cons (pv 10) (pa_cons (pv 11) pa_nil))) pa_nil)))))
      (pss_one (ps_if (pt_not (pt_val (pe_call G__law_alike (hr.mono (by first | decide | omega)) (by rfl) T.g__law_alike T.F__law_alike.kp T.b__law_alike .nil pass0 (pa_cons (pe_call G_laid_out (hr.mono (by first | decide | omega)) (by rfl) T.g_laid_out T.F_laid_out.kp T.b_laid_out .nil pass0 (pa_cons (pv 7) (pa_cons (pe_ix ix_tup (pe_ix ix_list (pv 2) (pv 6) (fun _ _ => rfl)) pe_int (fun _ _ => rfl)) (pa_cons (pv 11) pa_nil)))) (pa_cons (pv 12) pa_nil))))) (pss_one (ps_ret pe_bl)) pss_nil)))))
      (pss_one (ps_ret pe_bl))))))))), ?_⟩
  rw [show L2.start nm_law [.ref s] = [some (.ref s), none, none, none, none, none, none, none, none, none, none, none, none] from rfl]
  refine ⟨.ref s, rfl, s, ns, rfl, hS, hlen, fun H1 d l S1 D1 nd nl => ?_⟩
  dsimp only [gName, List.set_cons_succ, List.set_cons_zero]
  refine ⟨.ref d, rfl, .ref d, rfl, d, l, s, ns, 0, 3, rfl, D1, by decide, by decide, by decide, fun H2 n k2 D2 n0 n1 => ⟨1, n, rfl, rfl, ?_⟩⟩
  obtain ⟨nn, rfl⟩ : ∃ nn : Nat, n = ((nn : Nat) : Int) := ⟨n.toNat, by omega⟩
  refine ⟨.ref d, rfl, d, l, s, ns, 1, 9, rfl, D2, by decide, by decide, by decide, fun H3 m k3 D3 m0 m1 => ?_⟩
  obtain ⟨mm, rfl⟩ : ∃ mm : Nat, m = ((mm : Nat) : Int) := ⟨m.toNat, by omega⟩
  refine ⟨d, l, s, ns, 2, 1 + nn, mm, ?_, D3, by omega, by omega, by omega, by decide, fun H4 BL bvs bs k4 D4 nBL nBd nBl gB hbs row => ?_⟩
  · show [V.ref d, V.int (1 + ((nn : Nat) : Int)), V.int ((mm : Nat) : Int)] = _
    rw [show (1 : Int) + ((nn : Nat) : Int) = ((1 + nn : Nat) : Int) by omega]
  have hL : bs.length = 1 + nn + mm := row.1
  have bl : bvs.length = bs.length := by rw [hbs.len, List.length_map]
  dsimp only [gName, List.set_cons_succ, List.set_cons_zero]
  refine ⟨sz_n (by decide : 0 ≤ 1000), fun TL nTL => ?_⟩
  have aT := D4.apart nTL
  have D5 := D4.new nTL (o := .lst [])
  have k5 := keep_new (d := d) (l := l) nTL (o := .lst [])
  have gT : upd H4 TL (.lst []) TL = some (.lst []) := upd_same
  have nBT : BL ≠ TL := ne_of_none gB nTL
  generalize eH5 : upd H4 TL (.lst []) = H5 at D5 k5 gT ⊢
  dsimp only [gName, List.set_cons_succ, List.set_cons_zero]
  refine ⟨sz_n (by decide : 0 ≤ 1000), fun SL nSL => ?_⟩
  have aS := D5.apart nSL
  have D6 := (D5.new nSL (o := .lst [])).mono (show 2 + 300 ≤ 310 by decide)
  have k6 := k5.trans (keep_new nSL (o := .lst []))
  have gT6 := same_upd nSL (o := .lst []) _ _ gT
  have gS6 : upd H5 SL (.lst []) SL = some (.lst []) := upd_same
  have nTS : TL ≠ SL := ne_of_none gT nSL
  have nSL4 : H4 SL = none := by
    rw [← eH5] at nSL
    rw [upd_ne nTS.symm] at nSL
    exact nSL
  have nBS : BL ≠ SL := ne_of_none gB nSL4
  generalize upd H5 SL (.lst []) = H6 at D6 k6 gT6 gS6 ⊢
  dsimp only [gName, List.set_cons_succ, List.set_cons_zero]
  refine ⟨4, rfl, by decide, by decide, ?_⟩
  refine for_range (lo := 0) (n := 4) (fun i σ H' => ∃ tvs ts v5 v6, σ = [some (.ref s), some (.ref d), some (.ref BL), some (.ref TL), some (.ref SL), v5, v6, none, none, none, none, none, none] ∧ Keep d l H4 H' ∧ Dk K H' d l s ns (310 + 8 * i) ∧ H' TL = some (.lst tvs) ∧ DTs K H' tvs (ts.map eThing) ∧ H' SL = some (.lst (seenV ts)) ∧ ts.length ≤ i ∧ ThOk bs ts)
    ⟨[], [], _, _, rfl, k6, D6, gT6, .nil, gS6, Nat.le_refl _, fun t h => (by cases h), fun t h => (by cases h)⟩ (fun i σ H' hi q => ?_) (fun σ H' q => ?_)
  · obtain ⟨tvs, ts, v5, v6, rfl, kp, D', gT, hts, gS, tl, ok⟩ := q
    have gB' := kp BL _ gB nBd nBl
    dsimp only [gName, List.set_cons_succ, List.set_cons_zero]
    refine ⟨.ref BL, rfl, BL, _, rfl, .inl (SqL.of gB'), _, _, rfl, rfl, .ref d, rfl, .ref BL, rfl, BL, _, rfl, .inl (SqL.of gB'), _, _, rfl, d, l, s, ns, 310 + 8 * i, _, rfl, D', by omega, by split <;> omega, by split <;> omega, fun H8 e k8 D8 e0 e1 => ⟨_, _, rfl, rfl, ?_⟩⟩
    obtain ⟨ej, rfl⟩ : ∃ ej : Nat, e = ((ej : Nat) : Int) := ⟨e.toNat, by omega⟩
    have e1 : ((ej : Nat) : Int) < ((bvs.length : Nat) : Int) := by split at e1 <;> omega
    dsimp only [gName, List.set_cons_succ, List.set_cons_zero]
    rw [show ((bvs.length : Nat) : Int) - 1 - ((ej : Nat) : Int) = ((bs.length - 1 - ej : Nat) : Int) by omega]
    have ho : bs.length - 1 - ej < bs.length := by omega
    generalize bs.length - 1 - ej = o1 at ho ⊢
    have gS8 := k8 SL _ gS aS.1 aS.2.1
    have gT8 := k8 TL _ gT aT.1 aT.2.1
    have hts8 := hts.tk (k8.tk D')
    have kp8 := kp.trans k8
    refine ⟨_, rfl, _, rfl, SL, _, rfl, .inl (SqL.of gS8), rfl, seen_flat ts, _, rfl, ite2 (fun e => ?_) (fun e => ?_)⟩
    · have ns' := not_seen (n := o1) (ts := ts) (by
        cases h : inV (V.int ((o1 : Nat) : Int)) (seenV ts) with
        | false => rfl
        | true => rw [h] at e; cases e)
      refine ⟨.ref SL, rfl, .inl ⟨rfl, _, SqL.of gS8⟩, _, rfl, SL, _, _, rfl, rfl, gS8, small1000 (by unfold seenV; rw [List.length_map]; omega), ?_⟩
      have gT9 : upd H8 SL (.lst (seenV ts ++ [.int ((o1 : Nat) : Int)])) TL = some (.lst tvs) := by rw [upd_ne nTS]; exact gT8
      have gS9 : upd H8 SL (.lst (seenV ts ++ [.int ((o1 : Nat) : Int)])) SL = some (.lst (seenV ts ++ [.int ((o1 : Nat) : Int)])) := upd_same
      have D9 : Dk K (upd H8 SL (.lst (seenV ts ++ [.int ((o1 : Nat) : Int)]))) d l s ns (310 + 8 * i + 1) := D8.beside aS
      have kp9 : Keep d l H4 (upd H8 SL (.lst (seenV ts ++ [.int ((o1 : Nat) : Int)]))) := fun a o ho' na nl' => by
        rw [upd_ne (ne_of_none ho' nSL4)]; exact kp8 a o ho' na nl'
      have hts9 := hts8.tk (tk_lst gS8 (o := .lst (seenV ts ++ [.int ((o1 : Nat) : Int)])))
      generalize upd H8 SL (.lst (seenV ts ++ [.int ((o1 : Nat) : Int)])) = H9 at gT9 gS9 D9 kp9 hts9 ⊢
      refine ⟨.ref TL, rfl, .inl ⟨rfl, _, SqL.of gT9⟩, _, rfl, ?_⟩
      refine ⟨.ref d, rfl, d, l, s, ns, 310 + 8 * i + 1, 2, rfl, D9, by omega, by decide, by decide, fun H10 b k10 D10 b0 b1 => ⟨rfl, ?_⟩⟩
      refine ⟨.ref d, rfl, d, l, s, ns, 310 + 8 * i + 2, rfl, D10, by omega, fun H11 vm mp k11 D11 zm fm => ⟨sz_n (by decide : 4 ≤ 1000), fun r hr' => ?_⟩⟩
      have zr : DT K (upd H11 r (.tup [.int ((o1 : Nat) : Int), .str "red", .bl (decide (V.int b = V.int 0)), vm])) (.ref r) (eThing ⟨o1, "red", decide (V.int b = V.int 0), mp⟩) := dt_new hr' (.cons (.int _) (.cons (.str _) (.cons (.bl _) (.cons zm .nil))))
      have S12 := same_upd hr' (o := .tup [.int ((o1 : Nat) : Int), .str "red", .bl (decide (V.int b = V.int 0)), vm])
      generalize upd H11 r (.tup [.int ((o1 : Nat) : Int), .str "red", .bl (decide (V.int b = V.int 0)), vm]) = H12 at zr S12 ⊢
      have gT12 := S12 _ _ (k11 TL _ (k10 TL _ gT9 aT.1 aT.2.1) aT.1 aT.2.1)
      have gS12 := S12 _ _ (k11 SL _ (k10 SL _ gS9 aS.1 aS.2.1) aS.1 aS.2.1)
      have hts12 := ((hts9.tk (k10.tk D9)).tk (k11.tk D10)).tk (Same.tk S12)
      have tvl : tvs.length ≤ 4 := by rw [hts.len, List.length_map]; omega
      refine ⟨TL, _, _, rfl, rfl, gT12, small1000 (by omega), ?_⟩
      refine ⟨_, ts ++ [⟨o1, "red", decide (V.int b = V.int 0), mp⟩], _, _, rfl, fun a o ho' na nl' => ?_, (((D11.same S12).mono (by omega)).beside aT), upd_same, ?_, ?_, by rw [List.length_append]; exact Nat.add_le_add_right tl 1, ok.snoc ho fm ns'⟩
      · rw [upd_ne (ne_of_none ho' nTL)]
        exact S12 _ _ (k11 a o (k10 a o (kp9 a o ho' na nl') na nl') na nl')
      · rw [List.map_append]
        exact (hts12.tk (tk_lst gT12)).append (.cons (zr.tk (tk_lst gT12)) .nil)
      · rw [upd_ne nTS.symm, gS12]
        unfold seenV
        rw [List.map_append]
        rfl
    · exact ⟨_, ts, _, _, rfl, kp8, D8.mono (by omega), gT8, hts8, gS8, by omega, ok⟩
  obtain ⟨tvs, ts, v5, v6, rfl, kp, D', gT, hts, gS, tl, ok⟩ := q
  have gB10 := kp BL _ gB nBd nBl
  have hbs := hbs.tk (kp.tk D4)
  generalize H' = H10 at *
  dsimp only [gName, List.set_cons_succ, List.set_cons_zero]
  -- scene
  refine ⟨.ref BL, rfl, BL, _, rfl, .inl ⟨SqL.of gB10, fun t1 ht1 => ?_⟩⟩
  have c1 := dt_new ht1 hbs
  have S11 := same_upd ht1 (o := .tup bvs)
  generalize upd H10 t1 (.tup bvs) = H11 at c1 S11 ⊢
  refine ⟨.ref TL, rfl, TL, _, rfl, .inl ⟨SqL.of (S11 _ _ gT), fun t2 ht2 => ?_⟩⟩
  have c2 := dt_new ht2 (hts.tk (Same.tk S11))
  have c1 := c1.same (same_upd ht2 (o := .tup tvs))
  have S12 := S11.trans (same_upd ht2 (o := .tup tvs))
  generalize upd H11 t2 (.tup tvs) = H12 at c1 c2 S12 ⊢
  refine ⟨sz_n (by decide : 0 ≤ 1000), fun x1 hx1 => ?_⟩
  have c3 : DT K (upd H12 x1 (.tup [])) (.ref x1) (.tuple []) := dt_new hx1 .nil
  have c1 := c1.same (same_upd hx1 (o := .tup []))
  have c2 := c2.same (same_upd hx1 (o := .tup []))
  have S13 := S12.trans (same_upd hx1 (o := .tup []))
  generalize upd H12 x1 (.tup []) = H13 at c1 c2 c3 S13 ⊢
  refine ⟨sz_n (by decide : 0 ≤ 1000), fun x2 hx2 => ?_⟩
  have c4 : DT K (upd H13 x2 (.tup [])) (.ref x2) (.tuple []) := dt_new hx2 .nil
  have c1 := c1.same (same_upd hx2 (o := .tup []))
  have c2 := c2.same (same_upd hx2 (o := .tup []))
  have c3 := c3.same (same_upd hx2 (o := .tup []))
  have S14 := S13.trans (same_upd hx2 (o := .tup []))
  generalize upd H13 x2 (.tup []) = H14 at c1 c2 c3 c4 S14 ⊢
  refine ⟨sz_n (by decide : 4 ≤ 1000), fun sc hsc => ?_⟩
  have zsc : DT K (upd H14 sc (.tup [.ref t1, .ref t2, .ref x1, .ref x2])) (.ref sc) (eScene bs ts (.tuple []) (.tuple [])) := dt_new hsc (.cons c1 (.cons c2 (.cons c3 (.cons c4 .nil))))
  have S15 := S14.trans (same_upd hsc (o := .tup [.ref t1, .ref t2, .ref x1, .ref x2]))
  generalize upd H14 sc (.tup [.ref t1, .ref t2, .ref x1, .ref x2]) = Hs at zsc S15 ⊢
  dsimp only [gName, List.set_cons_succ, List.set_cons_zero]
  have gBs := S15 _ _ gB10
  have gTs := S15 _ _ gT
  have hbs := hbs.tk (Same.tk S15)
  have hts := hts.tk (Same.tk S15)
  have Ds := D'.same S15
  have gbs := row.2.1
  have nm := Nm27.u (by omega) row.2.2.1
  have tvl : tvs.length = ts.length := by rw [hts.len, List.length_map]
  refine ⟨.ref TL, rfl, TL, rfl, ⟨_, SqL.of gTs⟩, for_list (K := K) (a := TL) (xs := tvs) (fun i σ H' => ∃ v6 v8 v9 v10 v11 v12, σ = [some (.ref s), some (.ref d), some (.ref BL), some (.ref TL), some (.ref SL), v5, v6, some (.ref sc), v8, v9, v10, v11, v12] ∧ Keep d l Hs H' ∧ Dk K H' d l s ns (310 + 8 * 4 + 2 * i))
    ⟨_, _, _, _, _, _, rfl, Keep.refl, Ds⟩ (fun i σ H' _ q => ?_) (fun i x σ H' hx q => ?_) (fun σ H' q => ?_)⟩
  · obtain ⟨_, _, _, _, _, _, _, kp, _⟩ := q
    exact SqL.of (kp TL _ gTs aT.1 aT.2.1)
  · obtain ⟨v6, v8, v9, v10, v11, v12, rfl, kp, D'⟩ := q
    have hi4 := (List.getElem?_eq_some_iff.mp hx).1
    obtain ⟨dd, hd, zx⟩ := hts.get' hx
    rw [List.getElem?_map] at hd
    cases et : ts[i]? with
    | none => rw [et] at hd; cases hd
    | some th =>
      rw [et] at hd
      cases hd
      have hth : th ∈ ts := List.mem_of_getElem? et
      obtain ⟨hthi, hmv⟩ := ok.1 th hth
      have hall : ∀ t ∈ ts, t.i < bs.length := fun t ht => (ok.1 t ht).1
      have eb : bs[th.i]? = some bs[th.i] := List.getElem?_eq_getElem hthi
      obtain ⟨rest', ef⟩ := named_firstU nm hall ok.2 hth eb
      have c8 : layN bs 12 th.i ≤ 8 := row.2.2.2 th.i hthi
      have hN : layN bs 12 th.i ≤ 1000 := Nat.le_trans c8 (by decide)
      have hS0 : (layS bs 12 th.i 0).length ≤ 1000 := by have := layS_len gbs 12 th.i 0 hthi (by omega); omega
      have tks := kp.tk Ds
      obtain ⟨a, xs, rfl, ha, hs⟩ := DT.inv (zx.tk tks)
      cases hs with
      | cons g1 hs => cases hs with
        | cons g2 hs => cases hs with
          | cons g3 hs => cases hs with
            | cons g4 hs =>
              cases hs
              cases g1.int_inv
              refine ⟨a, _, rfl, ha.sq, rfl, _, _, rfl, _, _, rfl, _, _, rfl, _, _, rfl, rfl, ?_⟩
              dsimp only [gName, List.set_cons_succ, List.set_cons_zero]
              refine ⟨.ref d, rfl, d, l, s, ns, 310 + 8 * 4 + 2 * i, rfl, D', by omega, fun H16 vm m k16 D16 zm fm _ => ?_⟩
              dsimp only [gName, List.set_cons_succ, List.set_cons_zero]
              have tk16 := tks.trans (k16.tk D')
              have kp16 := kp.trans k16
              have gB16 := kp16 BL _ gBs nBd nBl
              have lok := laid_ok gbs hthi (by omega) hmv fm hN hS0
              have g4 := g4.tk (k16.tk D')
              refine ⟨_, rfl, _, rfl, _, rfl, _, rfl, _, _, _, _, rfl, g4, zm, lok.2.2.2.1, lok.2.2.2.2, fun H17 vf S17 zf => ?_⟩
              have p4 : ∀ n, n < 2 ^ 1000 → n < 2 ^ 4000 := fun n h => p1000 h
              refine ⟨BL, bvs, bs, th.i, vf, _, rfl, S17 _ _ gB16, (hbs.tk tk16).tk (Same.tk S17), zf, wok gbs 12 th.i hthi (by omega), hN, hS0, (hmv.scale fm).B (by decide) (p4 _ (Nat.lt_of_lt_of_le (by decide : 42 * 42 < 2 ^ 20) (Nat.pow_le_pow_right (by decide) (by decide)))) (p4 _ (Nat.lt_of_lt_of_le (by decide : 378 * 378 < 2 ^ 20) (Nat.pow_le_pow_right (by decide) (by decide)))), leaf_ok gbs th.i, fun H18 vd S18 zd => ?_⟩
              dsimp only [gName, List.set_cons_succ, List.set_cons_zero]
              have SB := S17.trans S18
              have tk18 := tk16.trans (Same.tk SB)
              refine ⟨_, rfl, _, rfl, _, rfl, rx_lst (SB _ _ gB16) (hbs.tk tk18) (by rw [List.getElem?_map, eb]; rfl) fun y hy => rd_c (rx_dt (j := 0) hy rfl fun z hz => ?_)⟩
              cases hz.str_inv
              refine ⟨_, rfl, _, _, _, bs, ts, _, _, th, rest', m, rfl, zsc.tk tk18, zm.same SB, hall, by omega, ef, lok, fun H19 v19 S19 z19 => ?_⟩
              exact ⟨_, rfl, _, _, _, rfl, z19, zd.same S19, pd_laid hN hS0, fun H20 S20 => ⟨true, rfl, iteF ⟨_, _, _, _, _, _, rfl, kp16.trans (same_keep (SB.trans (S19.trans S20))), (D16.same (SB.trans (S19.trans S20))).mono (by omega)⟩⟩⟩
  · exact k H'
end

theorem all_mk {l : PySem.W.OpenLaw} {w : World} {K : PySem.W.Frag} {h : Heap} {mg : Str → Option Value} {fa : Addr} (X : K.In h) (G : h.Ns mainGlobals mg) (hfa : mg "law" = some (.ref fa))
    {tkK0_0 : Tok}
    {tkK0_1 : Tok}
    {qK0 : Addr} {odK0 : Option Addr} {nK0 : Nat} {slK0 : Array (Option Value)} (kK0 : K.lookup qK0 = some ⟨.type "tuple", odK0, .seq #[.int (0) tkK0_0, .int (1) tkK0_1] nK0, slK0⟩)
    (gK0 : PySem.W.nsIn K mainGlobals "NOUGHT" = some (some (.ref qK0)))
    {qK1 : Addr} {esK1 : Array DictEntry} {nK1 : Nat} (gK1 : PySem.W.nsIn K mainGlobals "SPOKEN_OF" = some (some (.ref qK1))) (kK1 : K.lookup qK1 = some ⟨.type "dict", none, .dict esK1 nK1, #[]⟩) (hK1 : PySem.W.KeysLit w.params esK1.toList)
    {tK1_0 : Tok} (eK1_0 : PySem.W.nsIn K qK1 "box" = some (some (.int 0 tK1_0)))
    {tK1_1 : Tok} (eK1_1 : PySem.W.nsIn K qK1 "ball" = some (some (.int 0 tK1_1)))
    {tK1_2 : Tok} (eK1_2 : PySem.W.nsIn K qK1 "half" = some (some (.int 0 tK1_2)))
    {tK1_3 : Tok} (eK1_3 : PySem.W.nsIn K qK1 "join" = some (some (.int 2 tK1_3)))
    {tK1_4 : Tok} (eK1_4 : PySem.W.nsIn K qK1 "cut" = some (some (.int 2 tK1_4)))
    {tK1_5 : Tok} (eK1_5 : PySem.W.nsIn K qK1 "meet" = some (some (.int 2 tK1_5)))
    {tK1_6 : Tok} (eK1_6 : PySem.W.nsIn K qK1 "slide" = some (some (.int 1 tK1_6)))
    {tK1_7 : Tok} (eK1_7 : PySem.W.nsIn K qK1 "turn" = some (some (.int 1 tK1_7)))
    {tkK2_0 : Tok}
    {tkK2_1 : Tok}
    {qK2 : Addr} {odK2 : Option Addr} {nK2 : Nat} {slK2 : Array (Option Value)} (kK2 : K.lookup qK2 = some ⟨.type "tuple", odK2, .seq #[.int (1) tkK2_0, .int (1) tkK2_1] nK2, slK2⟩)
    (gK2 : PySem.W.nsIn K mainGlobals "ONE" = some (some (.ref qK2)))
    {tkK3_0_0_0 : Tok}
    {tkK3_0_0_1 : Tok}
    {qK3_0_0 : Addr} {odK3_0_0 : Option Addr} {nK3_0_0 : Nat} {slK3_0_0 : Array (Option Value)} (kK3_0_0 : K.lookup qK3_0_0 = some ⟨.type "tuple", odK3_0_0, .seq #[.int (1) tkK3_0_0_0, .int (1) tkK3_0_0_1] nK3_0_0, slK3_0_0⟩)
    {tkK3_0_1_0 : Tok}
    {tkK3_0_1_1 : Tok}
    {qK3_0_1 : Addr} {odK3_0_1 : Option Addr} {nK3_0_1 : Nat} {slK3_0_1 : Array (Option Value)} (kK3_0_1 : K.lookup qK3_0_1 = some ⟨.type "tuple", odK3_0_1, .seq #[.int (0) tkK3_0_1_0, .int (1) tkK3_0_1_1] nK3_0_1, slK3_0_1⟩)
    {tkK3_0_2_0 : Tok}
    {tkK3_0_2_1 : Tok}
    {qK3_0_2 : Addr} {odK3_0_2 : Option Addr} {nK3_0_2 : Nat} {slK3_0_2 : Array (Option Value)} (kK3_0_2 : K.lookup qK3_0_2 = some ⟨.type "tuple", odK3_0_2, .seq #[.int (0) tkK3_0_2_0, .int (1) tkK3_0_2_1] nK3_0_2, slK3_0_2⟩)
    {qK3_0 : Addr} {odK3_0 : Option Addr} {nK3_0 : Nat} {slK3_0 : Array (Option Value)} (kK3_0 : K.lookup qK3_0 = some ⟨.type "tuple", odK3_0, .seq #[.ref qK3_0_0, .ref qK3_0_1, .ref qK3_0_2] nK3_0, slK3_0⟩)
    {tkK3_1_0_0 : Tok}
    {tkK3_1_0_1 : Tok}
    {qK3_1_0 : Addr} {odK3_1_0 : Option Addr} {nK3_1_0 : Nat} {slK3_1_0 : Array (Option Value)} (kK3_1_0 : K.lookup qK3_1_0 = some ⟨.type "tuple", odK3_1_0, .seq #[.int (0) tkK3_1_0_0, .int (1) tkK3_1_0_1] nK3_1_0, slK3_1_0⟩)
    {tkK3_1_1_0 : Tok}
    {tkK3_1_1_1 : Tok}
    {qK3_1_1 : Addr} {odK3_1_1 : Option Addr} {nK3_1_1 : Nat} {slK3_1_1 : Array (Option Value)} (kK3_1_1 : K.lookup qK3_1_1 = some ⟨.type "tuple", odK3_1_1, .seq #[.int (1) tkK3_1_1_0, .int (1) tkK3_1_1_1] nK3_1_1, slK3_1_1⟩)
    {tkK3_1_2_0 : Tok}
    {tkK3_1_2_1 : Tok}
    {qK3_1_2 : Addr} {odK3_1_2 : Option Addr} {nK3_1_2 : Nat} {slK3_1_2 : Array (Option Value)} (kK3_1_2 : K.lookup qK3_1_2 = some ⟨.type "tuple", odK3_1_2, .seq #[.int (0) tkK3_1_2_0, .int (1) tkK3_1_2_1] nK3_1_2, slK3_1_2⟩)
    {qK3_1 : Addr} {odK3_1 : Option Addr} {nK3_1 : Nat} {slK3_1 : Array (Option Value)} (kK3_1 : K.lookup qK3_1 = some ⟨.type "tuple", odK3_1, .seq #[.ref qK3_1_0, .ref qK3_1_1, .ref qK3_1_2] nK3_1, slK3_1⟩)
    {tkK3_2_0_0 : Tok}
    {tkK3_2_0_1 : Tok}
    {qK3_2_0 : Addr} {odK3_2_0 : Option Addr} {nK3_2_0 : Nat} {slK3_2_0 : Array (Option Value)} (kK3_2_0 : K.lookup qK3_2_0 = some ⟨.type "tuple", odK3_2_0, .seq #[.int (0) tkK3_2_0_0, .int (1) tkK3_2_0_1] nK3_2_0, slK3_2_0⟩)
    {tkK3_2_1_0 : Tok}
    {tkK3_2_1_1 : Tok}
    {qK3_2_1 : Addr} {odK3_2_1 : Option Addr} {nK3_2_1 : Nat} {slK3_2_1 : Array (Option Value)} (kK3_2_1 : K.lookup qK3_2_1 = some ⟨.type "tuple", odK3_2_1, .seq #[.int (0) tkK3_2_1_0, .int (1) tkK3_2_1_1] nK3_2_1, slK3_2_1⟩)
    {tkK3_2_2_0 : Tok}
    {tkK3_2_2_1 : Tok}
    {qK3_2_2 : Addr} {odK3_2_2 : Option Addr} {nK3_2_2 : Nat} {slK3_2_2 : Array (Option Value)} (kK3_2_2 : K.lookup qK3_2_2 = some ⟨.type "tuple", odK3_2_2, .seq #[.int (1) tkK3_2_2_0, .int (1) tkK3_2_2_1] nK3_2_2, slK3_2_2⟩)
    {qK3_2 : Addr} {odK3_2 : Option Addr} {nK3_2 : Nat} {slK3_2 : Array (Option Value)} (kK3_2 : K.lookup qK3_2 = some ⟨.type "tuple", odK3_2, .seq #[.ref qK3_2_0, .ref qK3_2_1, .ref qK3_2_2] nK3_2, slK3_2⟩)
    {qK3 : Addr} {odK3 : Option Addr} {nK3 : Nat} {slK3 : Array (Option Value)} (kK3 : K.lookup qK3 = some ⟨.type "tuple", odK3, .seq #[.ref qK3_0, .ref qK3_1, .ref qK3_2] nK3, slK3⟩)
    (gK3 : PySem.W.nsIn K mainGlobals "UNTURNED" = some (some (.ref qK3)))
    {f0 : Addr} {od0 an0 : Option Addr} {sl0 : Array (Option Value)} {oc0 kV0 dc0 pm0 cd0 ct0 : Value}
    (a0 : PySem.W.nsIn K mainGlobals "frac" = some (some (.ref f0))) (l0 : K.lookup f0 = some ⟨oc0, od0, .func (PySem.W.fnOf "frac" "frac" (defArgs s_frac) (defBody s_frac) (defScope s_frac) .none kV0 dc0 pm0 an0 cd0 ct0), sl0⟩) (c0 : PySem.W.codeIn K cd0 "frac" = true) (k0 : PySem.W.keepIn K (.ref f0) = true)
    {f1 : Addr} {od1 an1 : Option Addr} {sl1 : Array (Option Value)} {oc1 kV1 dc1 pm1 cd1 ct1 : Value}
    (a1 : PySem.W.nsIn K mainGlobals "plus" = some (some (.ref f1))) (l1 : K.lookup f1 = some ⟨oc1, od1, .func (PySem.W.fnOf "plus" "plus" (defArgs s_plus) (defBody s_plus) (defScope s_plus) .none kV1 dc1 pm1 an1 cd1 ct1), sl1⟩) (c1 : PySem.W.codeIn K cd1 "plus" = true) (k1 : PySem.W.keepIn K (.ref f1) = true)
    {f2 : Addr} {od2 an2 : Option Addr} {sl2 : Array (Option Value)} {oc2 kV2 dc2 pm2 cd2 ct2 : Value}
    (a2 : PySem.W.nsIn K mainGlobals "minus" = some (some (.ref f2))) (l2 : K.lookup f2 = some ⟨oc2, od2, .func (PySem.W.fnOf "minus" "minus" (defArgs s_minus) (defBody s_minus) (defScope s_minus) .none kV2 dc2 pm2 an2 cd2 ct2), sl2⟩) (c2 : PySem.W.codeIn K cd2 "minus" = true) (k2 : PySem.W.keepIn K (.ref f2) = true)
    {f3 : Addr} {od3 an3 : Option Addr} {sl3 : Array (Option Value)} {oc3 kV3 dc3 pm3 cd3 ct3 : Value}
    (a3 : PySem.W.nsIn K mainGlobals "times" = some (some (.ref f3))) (l3 : K.lookup f3 = some ⟨oc3, od3, .func (PySem.W.fnOf "times" "times" (defArgs s_times) (defBody s_times) (defScope s_times) .none kV3 dc3 pm3 an3 cd3 ct3), sl3⟩) (c3 : PySem.W.codeIn K cd3 "times" = true) (k3 : PySem.W.keepIn K (.ref f3) = true)
    {f4 : Addr} {od4 an4 : Option Addr} {sl4 : Array (Option Value)} {oc4 kV4 dc4 pm4 cd4 ct4 : Value}
    (a4 : PySem.W.nsIn K mainGlobals "dot" = some (some (.ref f4))) (l4 : K.lookup f4 = some ⟨oc4, od4, .func (PySem.W.fnOf "dot" "dot" (defArgs s_dot) (defBody s_dot) (defScope s_dot) .none kV4 dc4 pm4 an4 cd4 ct4), sl4⟩) (c4 : PySem.W.codeIn K cd4 "dot" = true) (k4 : PySem.W.keepIn K (.ref f4) = true)
    {f5 : Addr} {od5 an5 : Option Addr} {sl5 : Array (Option Value)} {oc5 kV5 dc5 pm5 cd5 ct5 : Value}
    (a5 : PySem.W.nsIn K mainGlobals "together" = some (some (.ref f5))) (l5 : K.lookup f5 = some ⟨oc5, od5, .func (PySem.W.fnOf "together" "together" (defArgs s_together) (defBody s_together) (defScope s_together) .none kV5 dc5 pm5 an5 cd5 ct5), sl5⟩) (c5 : PySem.W.codeIn K cd5 "together" = true) (k5 : PySem.W.keepIn K (.ref f5) = true)
    {f6 : Addr} {od6 an6 : Option Addr} {sl6 : Array (Option Value)} {oc6 kV6 dc6 pm6 cd6 ct6 : Value}
    (a6 : PySem.W.nsIn K mainGlobals "stretched" = some (some (.ref f6))) (l6 : K.lookup f6 = some ⟨oc6, od6, .func (PySem.W.fnOf "stretched" "stretched" (defArgs s_stretched) (defBody s_stretched) (defScope s_stretched) .none kV6 dc6 pm6 an6 cd6 ct6), sl6⟩) (c6 : PySem.W.codeIn K cd6 "stretched" = true) (k6 : PySem.W.keepIn K (.ref f6) = true)
    {f7 : Addr} {od7 an7 : Option Addr} {sl7 : Array (Option Value)} {oc7 kV7 dc7 pm7 cd7 ct7 : Value}
    (a7 : PySem.W.nsIn K mainGlobals "turned" = some (some (.ref f7))) (l7 : K.lookup f7 = some ⟨oc7, od7, .func (PySem.W.fnOf "turned" "turned" (defArgs s_turned) (defBody s_turned) (defScope s_turned) .none kV7 dc7 pm7 an7 cd7 ct7), sl7⟩) (c7 : PySem.W.codeIn K cd7 "turned" = true) (k7 : PySem.W.keepIn K (.ref f7) = true)
    {f8 : Addr} {od8 an8 : Option Addr} {sl8 : Array (Option Value)} {oc8 kV8 dc8 pm8 cd8 ct8 : Value}
    (a8 : PySem.W.nsIn K mainGlobals "columns_of" = some (some (.ref f8))) (l8 : K.lookup f8 = some ⟨oc8, od8, .func (PySem.W.fnOf "columns_of" "columns_of" (defArgs s_columns_of) (defBody s_columns_of) (defScope s_columns_of) .none kV8 dc8 pm8 an8 cd8 ct8), sl8⟩) (c8 : PySem.W.codeIn K cd8 "columns_of" = true) (k8 : PySem.W.keepIn K (.ref f8) = true)
    {f9 : Addr} {od9 an9 : Option Addr} {sl9 : Array (Option Value)} {oc9 kV9 dc9 pm9 cd9 ct9 : Value}
    (a9 : PySem.W.nsIn K mainGlobals "turn_about" = some (some (.ref f9))) (l9 : K.lookup f9 = some ⟨oc9, od9, .func (PySem.W.fnOf "turn_about" "turn_about" (defArgs s_turn_about) (defBody s_turn_about) (defScope s_turn_about) .none kV9 dc9 pm9 an9 cd9 ct9), sl9⟩) (c9 : PySem.W.codeIn K cd9 "turn_about" = true) (k9 : PySem.W.keepIn K (.ref f9) = true)
    {f10 : Addr} {od10 an10 : Option Addr} {sl10 : Array (Option Value)} {oc10 kV10 dc10 pm10 cd10 ct10 : Value}
    (a10 : PySem.W.nsIn K mainGlobals "one_behind_other" = some (some (.ref f10))) (l10 : K.lookup f10 = some ⟨oc10, od10, .func (PySem.W.fnOf "one_behind_other" "one_behind_other" (defArgs s_one_behind_other) (defBody s_one_behind_other) (defScope s_one_behind_other) .none kV10 dc10 pm10 an10 cd10 ct10), sl10⟩) (c10 : PySem.W.codeIn K cd10 "one_behind_other" = true) (k10 : PySem.W.keepIn K (.ref f10) = true)
    {f11 : Addr} {od11 an11 : Option Addr} {sl11 : Array (Option Value)} {oc11 kV11 dc11 pm11 cd11 ct11 : Value}
    (a11 : PySem.W.nsIn K mainGlobals "lay" = some (some (.ref f11))) (l11 : K.lookup f11 = some ⟨oc11, od11, .func (PySem.W.fnOf "lay" "lay" (defArgs s_lay) (defBody s_lay) (defScope s_lay) .none kV11 dc11 pm11 an11 cd11 ct11), sl11⟩) (c11 : PySem.W.codeIn K cd11 "lay" = true) (k11 : PySem.W.keepIn K (.ref f11) = true)
    {f12 : Addr} {od12 an12 : Option Addr} {sl12 : Array (Option Value)} {oc12 kV12 dc12 pm12 cd12 ct12 : Value}
    (a12 : PySem.W.nsIn K mainGlobals "name_of" = some (some (.ref f12))) (l12 : K.lookup f12 = some ⟨oc12, od12, .func (PySem.W.fnOf "name_of" "name_of" (defArgs s_name_of) (defBody s_name_of) (defScope s_name_of) .none kV12 dc12 pm12 an12 cd12 ct12), sl12⟩) (c12 : PySem.W.codeIn K cd12 "name_of" = true) (k12 : PySem.W.keepIn K (.ref f12) = true)
    {f13 : Addr} {od13 an13 : Option Addr} {sl13 : Array (Option Value)} {oc13 kV13 dc13 pm13 cd13 ct13 : Value}
    (a13 : PySem.W.nsIn K mainGlobals "laid_thing" = some (some (.ref f13))) (l13 : K.lookup f13 = some ⟨oc13, od13, .func (PySem.W.fnOf "laid_thing" "laid_thing" (defArgs s_laid_thing) (defBody s_laid_thing) (defScope s_laid_thing) .none kV13 dc13 pm13 an13 cd13 ct13), sl13⟩) (c13 : PySem.W.codeIn K cd13 "laid_thing" = true) (k13 : PySem.W.keepIn K (.ref f13) = true)
    {f14 : Addr} {od14 an14 : Option Addr} {sl14 : Array (Option Value)} {oc14 kV14 dc14 pm14 cd14 ct14 : Value}
    (a14 : PySem.W.nsIn K mainGlobals "laid_out" = some (some (.ref f14))) (l14 : K.lookup f14 = some ⟨oc14, od14, .func (PySem.W.fnOf "laid_out" "laid_out" (defArgs s_laid_out) (defBody s_laid_out) (defScope s_laid_out) .none kV14 dc14 pm14 an14 cd14 ct14), sl14⟩) (c14 : PySem.W.codeIn K cd14 "laid_out" = true) (k14 : PySem.W.keepIn K (.ref f14) = true)
    {f15 : Addr} {od15 an15 : Option Addr} {sl15 : Array (Option Value)} {oc15 kV15 dc15 pm15 cd15 ct15 : Value}
    (a15 : PySem.W.nsIn K mainGlobals "_law_cell" = some (some (.ref f15))) (l15 : K.lookup f15 = some ⟨oc15, od15, .func (PySem.W.fnOf "_law_cell" "_law_cell" (defArgs s__law_cell) (defBody s__law_cell) (defScope s__law_cell) .none kV15 dc15 pm15 an15 cd15 ct15), sl15⟩) (c15 : PySem.W.codeIn K cd15 "_law_cell" = true) (k15 : PySem.W.keepIn K (.ref f15) = true)
    {f16 : Addr} {od16 an16 : Option Addr} {sl16 : Array (Option Value)} {oc16 kV16 dc16 pm16 cd16 ct16 : Value}
    (a16 : PySem.W.nsIn K mainGlobals "_law_mixed" = some (some (.ref f16))) (l16 : K.lookup f16 = some ⟨oc16, od16, .func (PySem.W.fnOf "_law_mixed" "_law_mixed" (defArgs s__law_mixed) (defBody s__law_mixed) (defScope s__law_mixed) .none kV16 dc16 pm16 an16 cd16 ct16), sl16⟩) (c16 : PySem.W.codeIn K cd16 "_law_mixed" = true) (k16 : PySem.W.keepIn K (.ref f16) = true)
    {f17 : Addr} {od17 an17 : Option Addr} {sl17 : Array (Option Value)} {oc17 kV17 dc17 pm17 cd17 ct17 : Value}
    (a17 : PySem.W.nsIn K mainGlobals "_law_deck" = some (some (.ref f17))) (l17 : K.lookup f17 = some ⟨oc17, od17, .func (PySem.W.fnOf "_law_deck" "_law_deck" (defArgs s__law_deck) (defBody s__law_deck) (defScope s__law_deck) .none kV17 dc17 pm17 an17 cd17 ct17), sl17⟩) (c17 : PySem.W.codeIn K cd17 "_law_deck" = true) (k17 : PySem.W.keepIn K (.ref f17) = true)
    {f18 : Addr} {od18 an18 : Option Addr} {sl18 : Array (Option Value)} {oc18 kV18 dc18 pm18 cd18 ct18 : Value}
    (a18 : PySem.W.nsIn K mainGlobals "_law_take" = some (some (.ref f18))) (l18 : K.lookup f18 = some ⟨oc18, od18, .func (PySem.W.fnOf "_law_take" "_law_take" (defArgs s__law_take) (defBody s__law_take) (defScope s__law_take) .none kV18 dc18 pm18 an18 cd18 ct18), sl18⟩) (c18 : PySem.W.codeIn K cd18 "_law_take" = true) (k18 : PySem.W.keepIn K (.ref f18) = true)
    {f19 : Addr} {od19 an19 : Option Addr} {sl19 : Array (Option Value)} {oc19 kV19 dc19 pm19 cd19 ct19 : Value}
    (a19 : PySem.W.nsIn K mainGlobals "_law_alike" = some (some (.ref f19))) (l19 : K.lookup f19 = some ⟨oc19, od19, .func (PySem.W.fnOf "_law_alike" "_law_alike" (defArgs s__law_alike) (defBody s__law_alike) (defScope s__law_alike) .none kV19 dc19 pm19 an19 cd19 ct19), sl19⟩) (c19 : PySem.W.codeIn K cd19 "_law_alike" = true) (k19 : PySem.W.keepIn K (.ref f19) = true)
    {f20 : Addr} {od20 an20 : Option Addr} {sl20 : Array (Option Value)} {oc20 kV20 dc20 pm20 cd20 ct20 : Value}
    (a20 : PySem.W.nsIn K mainGlobals "_law_gcd" = some (some (.ref f20))) (l20 : K.lookup f20 = some ⟨oc20, od20, .func (PySem.W.fnOf "_law_gcd" "_law_gcd" (defArgs s__law_gcd) (defBody s__law_gcd) (defScope s__law_gcd) .none kV20 dc20 pm20 an20 cd20 ct20), sl20⟩) (c20 : PySem.W.codeIn K cd20 "_law_gcd" = true) (k20 : PySem.W.keepIn K (.ref f20) = true)
    {f21 : Addr} {od21 an21 : Option Addr} {sl21 : Array (Option Value)} {oc21 kV21 dc21 pm21 cd21 ct21 : Value}
    (a21 : PySem.W.nsIn K mainGlobals "_law_frac" = some (some (.ref f21))) (l21 : K.lookup f21 = some ⟨oc21, od21, .func (PySem.W.fnOf "_law_frac" "_law_frac" (defArgs s__law_frac) (defBody s__law_frac) (defScope s__law_frac) .none kV21 dc21 pm21 an21 cd21 ct21), sl21⟩) (c21 : PySem.W.codeIn K cd21 "_law_frac" = true) (k21 : PySem.W.keepIn K (.ref f21) = true)
    {f22 : Addr} {od22 an22 : Option Addr} {sl22 : Array (Option Value)} {oc22 kV22 dc22 pm22 cd22 ct22 : Value}
    (a22 : PySem.W.nsIn K mainGlobals "_law_plus" = some (some (.ref f22))) (l22 : K.lookup f22 = some ⟨oc22, od22, .func (PySem.W.fnOf "_law_plus" "_law_plus" (defArgs s__law_plus) (defBody s__law_plus) (defScope s__law_plus) .none kV22 dc22 pm22 an22 cd22 ct22), sl22⟩) (c22 : PySem.W.codeIn K cd22 "_law_plus" = true) (k22 : PySem.W.keepIn K (.ref f22) = true)
    {f23 : Addr} {od23 an23 : Option Addr} {sl23 : Array (Option Value)} {oc23 kV23 dc23 pm23 cd23 ct23 : Value}
    (a23 : PySem.W.nsIn K mainGlobals "_law_times" = some (some (.ref f23))) (l23 : K.lookup f23 = some ⟨oc23, od23, .func (PySem.W.fnOf "_law_times" "_law_times" (defArgs s__law_times) (defBody s__law_times) (defScope s__law_times) .none kV23 dc23 pm23 an23 cd23 ct23), sl23⟩) (c23 : PySem.W.codeIn K cd23 "_law_times" = true) (k23 : PySem.W.keepIn K (.ref f23) = true)
    {f24 : Addr} {od24 an24 : Option Addr} {sl24 : Array (Option Value)} {oc24 kV24 dc24 pm24 cd24 ct24 : Value}
    (a24 : PySem.W.nsIn K mainGlobals "_law_other_way" = some (some (.ref f24))) (l24 : K.lookup f24 = some ⟨oc24, od24, .func (PySem.W.fnOf "_law_other_way" "_law_other_way" (defArgs s__law_other_way) (defBody s__law_other_way) (defScope s__law_other_way) .none kV24 dc24 pm24 an24 cd24 ct24), sl24⟩) (c24 : PySem.W.codeIn K cd24 "_law_other_way" = true) (k24 : PySem.W.keepIn K (.ref f24) = true)
    {f25 : Addr} {od25 an25 : Option Addr} {sl25 : Array (Option Value)} {oc25 kV25 dc25 pm25 cd25 ct25 : Value}
    (a25 : PySem.W.nsIn K mainGlobals "_law_added" = some (some (.ref f25))) (l25 : K.lookup f25 = some ⟨oc25, od25, .func (PySem.W.fnOf "_law_added" "_law_added" (defArgs s__law_added) (defBody s__law_added) (defScope s__law_added) .none kV25 dc25 pm25 an25 cd25 ct25), sl25⟩) (c25 : PySem.W.codeIn K cd25 "_law_added" = true) (k25 : PySem.W.keepIn K (.ref f25) = true)
    {f26 : Addr} {od26 an26 : Option Addr} {sl26 : Array (Option Value)} {oc26 kV26 dc26 pm26 cd26 ct26 : Value}
    (a26 : PySem.W.nsIn K mainGlobals "_law_away" = some (some (.ref f26))) (l26 : K.lookup f26 = some ⟨oc26, od26, .func (PySem.W.fnOf "_law_away" "_law_away" (defArgs s__law_away) (defBody s__law_away) (defScope s__law_away) .none kV26 dc26 pm26 an26 cd26 ct26), sl26⟩) (c26 : PySem.W.codeIn K cd26 "_law_away" = true) (k26 : PySem.W.keepIn K (.ref f26) = true)
    {f27 : Addr} {od27 an27 : Option Addr} {sl27 : Array (Option Value)} {oc27 kV27 dc27 pm27 cd27 ct27 : Value}
    (a27 : PySem.W.nsIn K mainGlobals "_law_many" = some (some (.ref f27))) (l27 : K.lookup f27 = some ⟨oc27, od27, .func (PySem.W.fnOf "_law_many" "_law_many" (defArgs s__law_many) (defBody s__law_many) (defScope s__law_many) .none kV27 dc27 pm27 an27 cd27 ct27), sl27⟩) (c27 : PySem.W.codeIn K cd27 "_law_many" = true) (k27 : PySem.W.keepIn K (.ref f27) = true)
    {f28 : Addr} {od28 an28 : Option Addr} {sl28 : Array (Option Value)} {oc28 kV28 dc28 pm28 cd28 ct28 : Value}
    (a28 : PySem.W.nsIn K mainGlobals "_law_number" = some (some (.ref f28))) (l28 : K.lookup f28 = some ⟨oc28, od28, .func (PySem.W.fnOf "_law_number" "_law_number" (defArgs s__law_number) (defBody s__law_number) (defScope s__law_number) .none kV28 dc28 pm28 an28 cd28 ct28), sl28⟩) (c28 : PySem.W.codeIn K cd28 "_law_number" = true) (k28 : PySem.W.keepIn K (.ref f28) = true)
    {f29 : Addr} {od29 an29 : Option Addr} {sl29 : Array (Option Value)} {oc29 kV29 dc29 pm29 cd29 ct29 : Value}
    (a29 : PySem.W.nsIn K mainGlobals "_law_point" = some (some (.ref f29))) (l29 : K.lookup f29 = some ⟨oc29, od29, .func (PySem.W.fnOf "_law_point" "_law_point" (defArgs s__law_point) (defBody s__law_point) (defScope s__law_point) .none kV29 dc29 pm29 an29 cd29 ct29), sl29⟩) (c29 : PySem.W.codeIn K cd29 "_law_point" = true) (k29 : PySem.W.keepIn K (.ref f29) = true)
    {f30 : Addr} {od30 an30 : Option Addr} {sl30 : Array (Option Value)} {oc30 kV30 dc30 pm30 cd30 ct30 : Value}
    (a30 : PySem.W.nsIn K mainGlobals "_law_size" = some (some (.ref f30))) (l30 : K.lookup f30 = some ⟨oc30, od30, .func (PySem.W.fnOf "_law_size" "_law_size" (defArgs s__law_size) (defBody s__law_size) (defScope s__law_size) .none kV30 dc30 pm30 an30 cd30 ct30), sl30⟩) (c30 : PySem.W.codeIn K cd30 "_law_size" = true) (k30 : PySem.W.keepIn K (.ref f30) = true)
    {f31 : Addr} {od31 an31 : Option Addr} {sl31 : Array (Option Value)} {oc31 kV31 dc31 pm31 cd31 ct31 : Value}
    (a31 : PySem.W.nsIn K mainGlobals "_law_base" = some (some (.ref f31))) (l31 : K.lookup f31 = some ⟨oc31, od31, .func (PySem.W.fnOf "_law_base" "_law_base" (defArgs s__law_base) (defBody s__law_base) (defScope s__law_base) .none kV31 dc31 pm31 an31 cd31 ct31), sl31⟩) (c31 : PySem.W.codeIn K cd31 "_law_base" = true) (k31 : PySem.W.keepIn K (.ref f31) = true)
    {f32 : Addr} {od32 an32 : Option Addr} {sl32 : Array (Option Value)} {oc32 kV32 dc32 pm32 cd32 ct32 : Value}
    (a32 : PySem.W.nsIn K mainGlobals "_law_turning" = some (some (.ref f32))) (l32 : K.lookup f32 = some ⟨oc32, od32, .func (PySem.W.fnOf "_law_turning" "_law_turning" (defArgs s__law_turning) (defBody s__law_turning) (defScope s__law_turning) .none kV32 dc32 pm32 an32 cd32 ct32), sl32⟩) (c32 : PySem.W.codeIn K cd32 "_law_turning" = true) (k32 : PySem.W.keepIn K (.ref f32) = true)
    {f33 : Addr} {od33 an33 : Option Addr} {sl33 : Array (Option Value)} {oc33 kV33 dc33 pm33 cd33 ct33 : Value}
    (a33 : PySem.W.nsIn K mainGlobals "_law_sliding" = some (some (.ref f33))) (l33 : K.lookup f33 = some ⟨oc33, od33, .func (PySem.W.fnOf "_law_sliding" "_law_sliding" (defArgs s__law_sliding) (defBody s__law_sliding) (defScope s__law_sliding) .none kV33 dc33 pm33 an33 cd33 ct33), sl33⟩) (c33 : PySem.W.codeIn K cd33 "_law_sliding" = true) (k33 : PySem.W.keepIn K (.ref f33) = true)
    {f34 : Addr} {od34 an34 : Option Addr} {sl34 : Array (Option Value)} {oc34 kV34 dc34 pm34 cd34 ct34 : Value}
    (a34 : PySem.W.nsIn K mainGlobals "_law_applied" = some (some (.ref f34))) (l34 : K.lookup f34 = some ⟨oc34, od34, .func (PySem.W.fnOf "_law_applied" "_law_applied" (defArgs s__law_applied) (defBody s__law_applied) (defScope s__law_applied) .none kV34 dc34 pm34 an34 cd34 ct34), sl34⟩) (c34 : PySem.W.codeIn K cd34 "_law_applied" = true) (k34 : PySem.W.keepIn K (.ref f34) = true)
    {f35 : Addr} {od35 an35 : Option Addr} {sl35 : Array (Option Value)} {oc35 kV35 dc35 pm35 cd35 ct35 : Value}
    (a35 : PySem.W.nsIn K mainGlobals "_law_walk" = some (some (.ref f35))) (l35 : K.lookup f35 = some ⟨oc35, od35, .func (PySem.W.fnOf "_law_walk" "_law_walk" (defArgs s__law_walk) (defBody s__law_walk) (defScope s__law_walk) .none kV35 dc35 pm35 an35 cd35 ct35), sl35⟩) (c35 : PySem.W.codeIn K cd35 "_law_walk" = true) (k35 : PySem.W.keepIn K (.ref f35) = true)
    {f36 : Addr} {od36 an36 : Option Addr} {sl36 : Array (Option Value)} {oc36 kV36 dc36 pm36 cd36 ct36 : Value}
    (a36 : PySem.W.nsIn K mainGlobals "_law_stands" = some (some (.ref f36))) (l36 : K.lookup f36 = some ⟨oc36, od36, .func (PySem.W.fnOf "_law_stands" "_law_stands" (defArgs s__law_stands) (defBody s__law_stands) (defScope s__law_stands) .none kV36 dc36 pm36 an36 cd36 ct36), sl36⟩) (c36 : PySem.W.codeIn K cd36 "_law_stands" = true) (k36 : PySem.W.keepIn K (.ref f36) = true)
    {f37 : Addr} {od37 an37 : Option Addr} {sl37 : Array (Option Value)} {oc37 kV37 dc37 pm37 cd37 ct37 : Value}
    (a37 : PySem.W.nsIn K mainGlobals "_law_leaf" = some (some (.ref f37))) (l37 : K.lookup f37 = some ⟨oc37, od37, .func (PySem.W.fnOf "_law_leaf" "_law_leaf" (defArgs s__law_leaf) (defBody s__law_leaf) (defScope s__law_leaf) .none kV37 dc37 pm37 an37 cd37 ct37), sl37⟩) (c37 : PySem.W.codeIn K cd37 "_law_leaf" = true) (k37 : PySem.W.keepIn K (.ref f37) = true)
    {f38 : Addr} {od38 an38 : Option Addr} {sl38 : Array (Option Value)} {oc38 kV38 dc38 pm38 cd38 ct38 : Value}
    (a38 : PySem.W.nsIn K mainGlobals "_law_laid" = some (some (.ref f38))) (l38 : K.lookup f38 = some ⟨oc38, od38, .func (PySem.W.fnOf "_law_laid" "_law_laid" (defArgs s__law_laid) (defBody s__law_laid) (defScope s__law_laid) .none kV38 dc38 pm38 an38 cd38 ct38), sl38⟩) (c38 : PySem.W.codeIn K cd38 "_law_laid" = true) (k38 : PySem.W.keepIn K (.ref f38) = true)
    {f39 : Addr} {od39 an39 : Option Addr} {sl39 : Array (Option Value)} {oc39 kV39 dc39 pm39 cd39 ct39 : Value}
    (a39 : PySem.W.nsIn K mainGlobals "_law_bodies" = some (some (.ref f39))) (l39 : K.lookup f39 = some ⟨oc39, od39, .func (PySem.W.fnOf "_law_bodies" "_law_bodies" (defArgs s__law_bodies) (defBody s__law_bodies) (defScope s__law_bodies) .none kV39 dc39 pm39 an39 cd39 ct39), sl39⟩) (c39 : PySem.W.codeIn K cd39 "_law_bodies" = true) (k39 : PySem.W.keepIn K (.ref f39) = true)
    {f40 : Addr} {od40 an40 : Option Addr} {sl40 : Array (Option Value)} {oc40 kV40 dc40 pm40 cd40 ct40 : Value}
    (a40 : PySem.W.nsIn K mainGlobals "law" = some (some (.ref f40))) (l40 : K.lookup f40 = some ⟨oc40, od40, .func (PySem.W.fnOf "law" "law" (defArgs s_law) (defBody s_law) (defScope s_law) .none kV40 dc40 pm40 an40 cd40 ct40), sl40⟩) (c40 : PySem.W.codeIn K cd40 "law" = true) (k40 : PySem.W.keepIn K (.ref f40) = true)
    (z0 : PySem.W.nsIn K mainGlobals "abs" = some none)
    (z1 : PySem.W.nsIn K mainGlobals "bool" = some none)
    (z2 : PySem.W.nsIn K mainGlobals "int" = some none)
    (z3 : PySem.W.nsIn K mainGlobals "isinstance" = some none)
    (z4 : PySem.W.nsIn K mainGlobals "len" = some none)
    (z5 : PySem.W.nsIn K mainGlobals "min" = some none)
    (z6 : PySem.W.nsIn K mainGlobals "range" = some none)
    (z7 : PySem.W.nsIn K mainGlobals "str" = some none)
    (z8 : PySem.W.nsIn K mainGlobals "tuple" = some none)
    (z9 : PySem.W.nsIn K mainGlobals "zip" = some none)
    : ∃ fd : FuncData, (∀ (s : Shared) (v : Value), BindsTo s fd ⟨[v], []⟩ [("_law_script", v)]) ∧ ∀ base : Heap, K.In base → base.Ns mainGlobals mg → FnOk l.prog w K mg base CX0 21 fa fd ["_law_script"] (sp_law K) := by
  have e := hfa.symm.trans (PySem.W.mg_of X G a40)
  cases e
  have F0 := fun_mk (st := s_frac) l0 c0 k0
  have b0 := F0.binds (ps := ["above", "below"]) fun _ _ _ _ _ _ us hl => match us, hl with | [_, _], _ => rfl
  have F1 := fun_mk (st := s_plus) l1 c1 k1
  have b1 := F1.binds (ps := ["one", "other"]) fun _ _ _ _ _ _ us hl => match us, hl with | [_, _], _ => rfl
  have F2 := fun_mk (st := s_minus) l2 c2 k2
  have b2 := F2.binds (ps := ["one", "other"]) fun _ _ _ _ _ _ us hl => match us, hl with | [_, _], _ => rfl
  have F3 := fun_mk (st := s_times) l3 c3 k3
  have b3 := F3.binds (ps := ["one", "other"]) fun _ _ _ _ _ _ us hl => match us, hl with | [_, _], _ => rfl
  have F4 := fun_mk (st := s_dot) l4 c4 k4
  have b4 := F4.binds (ps := ["one", "other"]) fun _ _ _ _ _ _ us hl => match us, hl with | [_, _], _ => rfl
  have F5 := fun_mk (st := s_together) l5 c5 k5
  have b5 := F5.binds (ps := ["one", "other"]) fun _ _ _ _ _ _ us hl => match us, hl with | [_, _], _ => rfl
  have F6 := fun_mk (st := s_stretched) l6 c6 k6
  have b6 := F6.binds (ps := ["way", "by"]) fun _ _ _ _ _ _ us hl => match us, hl with | [_, _], _ => rfl
  have F7 := fun_mk (st := s_turned) l7 c7 k7
  have b7 := F7.binds (ps := ["turn", "way"]) fun _ _ _ _ _ _ us hl => match us, hl with | [_, _], _ => rfl
  have F8 := fun_mk (st := s_columns_of) l8 c8 k8
  have b8 := F8.binds (ps := ["turn"]) fun _ _ _ _ _ _ us hl => match us, hl with | [_], _ => rfl
  have F9 := fun_mk (st := s_turn_about) l9 c9 k9
  have b9 := F9.binds (ps := ["axis", "cosine", "sine"]) fun _ _ _ _ _ _ us hl => match us, hl with | [_, _, _], _ => rfl
  have F10 := fun_mk (st := s_one_behind_other) l10 c10 k10
  have b10 := F10.binds (ps := ["outer", "inner"]) fun _ _ _ _ _ _ us hl => match us, hl with | [_, _], _ => rfl
  have F11 := fun_mk (st := s_lay) l11 c11 k11
  have b11 := F11.binds (ps := ["bodies", "number", "turn", "slide", "leaves"]) fun _ _ _ _ _ _ us hl => match us, hl with | [_, _, _, _, _], _ => rfl
  have F12 := fun_mk (st := s_name_of) l12 c12 k12
  have b12 := F12.binds (ps := ["scene", "thing"]) fun _ _ _ _ _ _ us hl => match us, hl with | [_, _], _ => rfl
  have F13 := fun_mk (st := s_laid_thing) l13 c13 k13
  have b13 := F13.binds (ps := ["scene", "thing", "moment"]) fun _ _ _ _ _ _ us hl => match us, hl with | [_, _, _], _ => rfl
  have F14 := fun_mk (st := s_laid_out) l14 c14 k14
  have b14 := F14.binds (ps := ["scene", "name", "moment"]) fun _ _ _ _ _ _ us hl => match us, hl with | [_, _, _], _ => rfl
  have F15 := fun_mk (st := s__law_cell) l15 c15 k15
  have b15 := F15.binds (ps := ["_law_script", "_law_k"]) fun _ _ _ _ _ _ us hl => match us, hl with | [_, _], _ => rfl
  have F16 := fun_mk (st := s__law_mixed) l16 c16 k16
  have b16 := F16.binds (ps := ["_law_script", "_law_k", "_law_many_here"]) fun _ _ _ _ _ _ us hl => match us, hl with | [_, _, _], _ => rfl
  have F17 := fun_mk (st := s__law_deck) l17 c17 k17
  have b17 := F17.binds (ps := ["_law_script"]) fun _ _ _ _ _ _ us hl => match us, hl with | [_], _ => rfl
  have F18 := fun_mk (st := s__law_take) l18 c18 k18
  have b18 := F18.binds (ps := ["_law_deck_here", "_law_many_here"]) fun _ _ _ _ _ _ us hl => match us, hl with | [_, _], _ => rfl
  have F19 := fun_mk (st := s__law_alike) l19 c19 k19
  have b19 := F19.binds (ps := ["_law_found", "_law_due"]) fun _ _ _ _ _ _ us hl => match us, hl with | [_, _], _ => rfl
  have F20 := fun_mk (st := s__law_gcd) l20 c20 k20
  have b20 := F20.binds (ps := ["_law_one", "_law_other"]) fun _ _ _ _ _ _ us hl => match us, hl with | [_, _], _ => rfl
  have F21 := fun_mk (st := s__law_frac) l21 c21 k21
  have b21 := F21.binds (ps := ["_law_above", "_law_below"]) fun _ _ _ _ _ _ us hl => match us, hl with | [_, _], _ => rfl
  have F22 := fun_mk (st := s__law_plus) l22 c22 k22
  have b22 := F22.binds (ps := ["_law_one", "_law_other"]) fun _ _ _ _ _ _ us hl => match us, hl with | [_, _], _ => rfl
  have F23 := fun_mk (st := s__law_times) l23 c23 k23
  have b23 := F23.binds (ps := ["_law_one", "_law_other"]) fun _ _ _ _ _ _ us hl => match us, hl with | [_, _], _ => rfl
  have F24 := fun_mk (st := s__law_other_way) l24 c24 k24
  have b24 := F24.binds (ps := ["_law_one"]) fun _ _ _ _ _ _ us hl => match us, hl with | [_], _ => rfl
  have F25 := fun_mk (st := s__law_added) l25 c25 k25
  have b25 := F25.binds (ps := ["_law_one", "_law_other"]) fun _ _ _ _ _ _ us hl => match us, hl with | [_, _], _ => rfl
  have F26 := fun_mk (st := s__law_away) l26 c26 k26
  have b26 := F26.binds (ps := ["_law_one", "_law_other"]) fun _ _ _ _ _ _ us hl => match us, hl with | [_, _], _ => rfl
  have F27 := fun_mk (st := s__law_many) l27 c27 k27
  have b27 := F27.binds (ps := ["_law_point_here", "_law_number_here"]) fun _ _ _ _ _ _ us hl => match us, hl with | [_, _], _ => rfl
  have F28 := fun_mk (st := s__law_number) l28 c28 k28
  have b28 := F28.binds (ps := ["_law_deck_here"]) fun _ _ _ _ _ _ us hl => match us, hl with | [_], _ => rfl
  have F29 := fun_mk (st := s__law_point) l29 c29 k29
  have b29 := F29.binds (ps := ["_law_deck_here"]) fun _ _ _ _ _ _ us hl => match us, hl with | [_], _ => rfl
  have F30 := fun_mk (st := s__law_size) l30 c30 k30
  have b30 := F30.binds (ps := ["_law_deck_here"]) fun _ _ _ _ _ _ us hl => match us, hl with | [_], _ => rfl
  have F31 := fun_mk (st := s__law_base) l31 c31 k31
  have b31 := F31.binds (ps := ["_law_deck_here"]) fun _ _ _ _ _ _ us hl => match us, hl with | [_], _ => rfl
  have F32 := fun_mk (st := s__law_turning) l32 c32 k32
  have b32 := F32.binds (ps := ["_law_deck_here", "_law_number_here"]) fun _ _ _ _ _ _ us hl => match us, hl with | [_, _], _ => rfl
  have F33 := fun_mk (st := s__law_sliding) l33 c33 k33
  have b33 := F33.binds (ps := ["_law_deck_here", "_law_number_here"]) fun _ _ _ _ _ _ us hl => match us, hl with | [_, _], _ => rfl
  have F34 := fun_mk (st := s__law_applied) l34 c34 k34
  have b34 := F34.binds (ps := ["_law_form", "_law_point_here"]) fun _ _ _ _ _ _ us hl => match us, hl with | [_, _], _ => rfl
  have F35 := fun_mk (st := s__law_walk) l35 c35 k35
  have b35 := F35.binds (ps := ["_law_bodies_here", "_law_number_here"]) fun _ _ _ _ _ _ us hl => match us, hl with | [_, _], _ => rfl
  have F36 := fun_mk (st := s__law_stands) l36 c36 k36
  have b36 := F36.binds (ps := ["_law_ways", "_law_point_here"]) fun _ _ _ _ _ _ us hl => match us, hl with | [_, _], _ => rfl
  have F37 := fun_mk (st := s__law_leaf) l37 c37 k37
  have b37 := F37.binds (ps := ["_law_bodies_here", "_law_leaf_here", "_law_ways", "_law_far"]) fun _ _ _ _ _ _ us hl => match us, hl with | [_, _, _, _], _ => rfl
  have F38 := fun_mk (st := s__law_laid) l38 c38 k38
  have b38 := F38.binds (ps := ["_law_bodies_here", "_law_number_here", "_law_far"]) fun _ _ _ _ _ _ us hl => match us, hl with | [_, _, _], _ => rfl
  have F39 := fun_mk (st := s__law_bodies) l39 c39 k39
  have b39 := F39.binds (ps := ["_law_deck_here", "_law_bases", "_law_more"]) fun _ _ _ _ _ _ us hl => match us, hl with | [_, _, _], _ => rfl
  have F40 := fun_mk (st := s_law) l40 c40 k40
  have T : Tx K mg w := ⟨qK0, PySem.W.mg_of X G gK0, fun H => (dt_written kK0 (by show 2 ≤ sizeLine; decide) (.cons (.int (0)) (.cons (.int (1)) .nil)) (.cons ⟨_, rfl⟩ (.cons ⟨_, rfl⟩ .nil))), qK1, PySem.W.mg_of X G gK1, ⟨_, _, _, kK1, hK1, eK1_0, ⟨_, rfl⟩⟩, ⟨_, _, _, kK1, hK1, eK1_1, ⟨_, rfl⟩⟩, ⟨_, _, _, kK1, hK1, eK1_2, ⟨_, rfl⟩⟩, ⟨_, _, _, kK1, hK1, eK1_3, ⟨_, rfl⟩⟩, ⟨_, _, _, kK1, hK1, eK1_4, ⟨_, rfl⟩⟩, ⟨_, _, _, kK1, hK1, eK1_5, ⟨_, rfl⟩⟩, ⟨_, _, _, kK1, hK1, eK1_6, ⟨_, rfl⟩⟩, ⟨_, _, _, kK1, hK1, eK1_7, ⟨_, rfl⟩⟩, qK2, PySem.W.mg_of X G gK2, fun H => (dt_written kK2 (by show 2 ≤ sizeLine; decide) (.cons (.int (1)) (.cons (.int (1)) .nil)) (.cons ⟨_, rfl⟩ (.cons ⟨_, rfl⟩ .nil))), qK3, PySem.W.mg_of X G gK3, fun H => (dt_written kK3 (by show 3 ≤ sizeLine; decide) (.cons (dt_written kK3_0 (by show 3 ≤ sizeLine; decide) (.cons (dt_written kK3_0_0 (by show 2 ≤ sizeLine; decide) (.cons (.int (1)) (.cons (.int (1)) .nil)) (.cons ⟨_, rfl⟩ (.cons ⟨_, rfl⟩ .nil))) (.cons (dt_written kK3_0_1 (by show 2 ≤ sizeLine; decide) (.cons (.int (0)) (.cons (.int (1)) .nil)) (.cons ⟨_, rfl⟩ (.cons ⟨_, rfl⟩ .nil))) (.cons (dt_written kK3_0_2 (by show 2 ≤ sizeLine; decide) (.cons (.int (0)) (.cons (.int (1)) .nil)) (.cons ⟨_, rfl⟩ (.cons ⟨_, rfl⟩ .nil))) .nil))) (.cons rfl (.cons rfl (.cons rfl .nil)))) (.cons (dt_written kK3_1 (by show 3 ≤ sizeLine; decide) (.cons (dt_written kK3_1_0 (by show 2 ≤ sizeLine; decide) (.cons (.int (0)) (.cons (.int (1)) .nil)) (.cons ⟨_, rfl⟩ (.cons ⟨_, rfl⟩ .nil))) (.cons (dt_written kK3_1_1 (by show 2 ≤ sizeLine; decide) (.cons (.int (1)) (.cons (.int (1)) .nil)) (.cons ⟨_, rfl⟩ (.cons ⟨_, rfl⟩ .nil))) (.cons (dt_written kK3_1_2 (by show 2 ≤ sizeLine; decide) (.cons (.int (0)) (.cons (.int (1)) .nil)) (.cons ⟨_, rfl⟩ (.cons ⟨_, rfl⟩ .nil))) .nil))) (.cons rfl (.cons rfl (.cons rfl .nil)))) (.cons (dt_written kK3_2 (by show 3 ≤ sizeLine; decide) (.cons (dt_written kK3_2_0 (by show 2 ≤ sizeLine; decide) (.cons (.int (0)) (.cons (.int (1)) .nil)) (.cons ⟨_, rfl⟩ (.cons ⟨_, rfl⟩ .nil))) (.cons (dt_written kK3_2_1 (by show 2 ≤ sizeLine; decide) (.cons (.int (0)) (.cons (.int (1)) .nil)) (.cons ⟨_, rfl⟩ (.cons ⟨_, rfl⟩ .nil))) (.cons (dt_written kK3_2_2 (by show 2 ≤ sizeLine; decide) (.cons (.int (1)) (.cons (.int (1)) .nil)) (.cons ⟨_, rfl⟩ (.cons ⟨_, rfl⟩ .nil))) .nil))) (.cons rfl (.cons rfl (.cons rfl .nil)))) .nil))) (.cons rfl (.cons rfl (.cons rfl .nil)))), f0, _, F0, b0, PySem.W.mg_of X G a0, f1, _, F1, b1, PySem.W.mg_of X G a1, f2, _, F2, b2, PySem.W.mg_of X G a2, f3, _, F3, b3, PySem.W.mg_of X G a3, f4, _, F4, b4, PySem.W.mg_of X G a4, f5, _, F5, b5, PySem.W.mg_of X G a5, f6, _, F6, b6, PySem.W.mg_of X G a6, f7, _, F7, b7, PySem.W.mg_of X G a7, f8, _, F8, b8, PySem.W.mg_of X G a8, f9, _, F9, b9, PySem.W.mg_of X G a9, f10, _, F10, b10, PySem.W.mg_of X G a10, f11, _, F11, b11, PySem.W.mg_of X G a11, f12, _, F12, b12, PySem.W.mg_of X G a12, f13, _, F13, b13, PySem.W.mg_of X G a13, f14, _, F14, b14, PySem.W.mg_of X G a14, f15, _, F15, b15, PySem.W.mg_of X G a15, f16, _, F16, b16, PySem.W.mg_of X G a16, f17, _, F17, b17, PySem.W.mg_of X G a17, f18, _, F18, b18, PySem.W.mg_of X G a18, f19, _, F19, b19, PySem.W.mg_of X G a19, f20, _, F20, b20, PySem.W.mg_of X G a20, f21, _, F21, b21, PySem.W.mg_of X G a21, f22, _, F22, b22, PySem.W.mg_of X G a22, f23, _, F23, b23, PySem.W.mg_of X G a23, f24, _, F24, b24, PySem.W.mg_of X G a24, f25, _, F25, b25, PySem.W.mg_of X G a25, f26, _, F26, b26, PySem.W.mg_of X G a26, f27, _, F27, b27, PySem.W.mg_of X G a27, f28, _, F28, b28, PySem.W.mg_of X G a28, f29, _, F29, b29, PySem.W.mg_of X G a29, f30, _, F30, b30, PySem.W.mg_of X G a30, f31, _, F31, b31, PySem.W.mg_of X G a31, f32, _, F32, b32, PySem.W.mg_of X G a32, f33, _, F33, b33, PySem.W.mg_of X G a33, f34, _, F34, b34, PySem.W.mg_of X G a34, f35, _, F35, b35, PySem.W.mg_of X G a35, f36, _, F36, b36, PySem.W.mg_of X G a36, f37, _, F37, b37, PySem.W.mg_of X G a37, f38, _, F38, b38, PySem.W.mg_of X G a38, f39, _, F39, b39, PySem.W.mg_of X G a39, PySem.W.mg_none_of X G z0, PySem.W.mg_none_of X G z1, PySem.W.mg_none_of X G z2, PySem.W.mg_none_of X G z3, PySem.W.mg_none_of X G z4, PySem.W.mg_none_of X G z5, PySem.W.mg_none_of X G z6, PySem.W.mg_none_of X G z7, PySem.W.mg_none_of X G z8, PySem.W.mg_none_of X G z9⟩
  exact ⟨PySem.W.fnOf "law" "law" (defArgs s_law) (defBody s_law) (defScope s_law) .none kV40 dc40 pm40 an40 cd40 ct40, fun s v => .of_eq rfl, fun base _ _ => ok_law F40 T⟩
end Sc
open PySem PySem.W PyProof.Rows
set_option maxHeartbeats 0 in
theorem PySem.Challenge.cw_scenetongue_k27_whole_laid_by_walks_holds : PySem.Challenge.rw_scenetongue_k27_whole_laid_by_walks.Holds := by
  w_on; o_law; k_head; (case hw => w_witness2)
  k_fill
  refine L2.walk_of (l := PySem.Challenge.rw_scenetongue_k27_whole_laid_by_walks) (n := 63) (k := 21) (x := "_law_script") (CX := fun _ => L2.CX0) (sp := fun w => Sc.sp_law _) rfl (by decide) rfl ⟨rfl, by decide, by decide⟩ (fun w h Y => PySem.W.kIn_of Y) ?F (fun _ _ a ns hl _ hS => ⟨a, ns, rfl, hS, hl, fun _ => rfl⟩) (fun _ _ _ _ _ h => h)
  case F =>
    intro w mg fa h KX G hmg
    refine' Sc.all_mk KX G hmg ?kK0 ?gK0 ?gK1 ?kK1 ?hK1 ?eK1_0 ?eK1_1 ?eK1_2 ?eK1_3 ?eK1_4 ?eK1_5 ?eK1_6 ?eK1_7 ?kK2 ?gK2 ?kK3_0_0 ?kK3_0_1 ?kK3_0_2 ?kK3_0 ?kK3_1_0 ?kK3_1_1 ?kK3_1_2 ?kK3_1 ?kK3_2_0 ?kK3_2_1 ?kK3_2_2 ?kK3_2 ?kK3 ?gK3 ?a0 ?l0 ?c0 ?k0 ?a1 ?l1 ?c1 ?k1 ?a2 ?l2 ?c2 ?k2 ?a3 ?l3 ?c3 ?k3 ?a4 ?l4 ?c4 ?k4 ?a5 ?l5 ?c5 ?k5 ?a6 ?l6 ?c6 ?k6 ?a7 ?l7 ?c7 ?k7 ?a8 ?l8 ?c8 ?k8 ?a9 ?l9 ?c9 ?k9 ?a10 ?l10 ?c10 ?k10 ?a11 ?l11 ?c11 ?k11 ?a12 ?l12 ?c12 ?k12 ?a13 ?l13 ?c13 ?k13 ?a14 ?l14 ?c14 ?k14 ?a15 ?l15 ?c15 ?k15 ?a16 ?l16 ?c16 ?k16 ?a17 ?l17 ?c17 ?k17 ?a18 ?l18 ?c18 ?k18 ?a19 ?l19 ?c19 ?k19 ?a20 ?l20 ?c20 ?k20 ?a21 ?l21 ?c21 ?k21 ?a22 ?l22 ?c22 ?k22 ?a23 ?l23 ?c23 ?k23 ?a24 ?l24 ?c24 ?k24 ?a25 ?l25 ?c25 ?k25 ?a26 ?l26 ?c26 ?k26 ?a27 ?l27 ?c27 ?k27 ?a28 ?l28 ?c28 ?k28 ?a29 ?l29 ?c29 ?k29 ?a30 ?l30 ?c30 ?k30 ?a31 ?l31 ?c31 ?k31 ?a32 ?l32 ?c32 ?k32 ?a33 ?l33 ?c33 ?k33 ?a34 ?l34 ?c34 ?k34 ?a35 ?l35 ?c35 ?k35 ?a36 ?l36 ?c36 ?k36 ?a37 ?l37 ?c37 ?k37 ?a38 ?l38 ?c38 ?k38 ?a39 ?l39 ?c39 ?k39 ?a40 ?l40 ?c40 ?k40 ?z0 ?z1 ?z2 ?z3 ?z4 ?z5 ?z6 ?z7 ?z8 ?z9
    (case gK0 => k_is); (case kK0 => k_is); (case gK1 => k_is); (case kK1 => k_is); (case hK1 => k_keys); (case eK1_0 => k_is); (case eK1_1 => k_is); (case eK1_2 => k_is); (case eK1_3 => k_is); (case eK1_4 => k_is); (case eK1_5 => k_is); (case eK1_6 => k_is); (case eK1_7 => k_is); (case gK2 => k_is); (case kK2 => k_is); (case gK3 => k_is); (case kK3 => k_is); (case kK3_2 => k_is); (case kK3_2_2 => k_is); (case kK3_2_1 => k_is); (case kK3_2_0 => k_is); (case kK3_1 => k_is); (case kK3_1_2 => k_is); (case kK3_1_1 => k_is); (case kK3_1_0 => k_is); (case kK3_0 => k_is); (case kK3_0_2 => k_is); (case kK3_0_1 => k_is); (case kK3_0_0 => k_is); (case a0 => k_is); (case l0 => k_is); (case c0 => k_is); (case k0 => k_is); (case a1 => k_is); (case l1 => k_is); (case c1 => k_is); (case k1 => k_is); (case a2 => k_is); (case l2 => k_is); (case c2 => k_is); (case k2 => k_is); (case a3 => k_is); (case l3 => k_is); (case c3 => k_is); (case k3 => k_is); (case a4 => k_is); (case l4 => k_is); (case c4 => k_is); (case k4 => k_is); (case a5 => k_is); (case l5 => k_is); (case c5 => k_is); (case k5 => k_is); (case a6 => k_is); (case l6 => k_is); (case c6 => k_is); (case k6 => k_is); (case a7 => k_is); (case l7 => k_is); (case c7 => k_is); (case k7 => k_is); (case a8 => k_is); (case l8 => k_is); (case c8 => k_is); (case k8 => k_is); (case a9 => k_is); (case l9 => k_is); (case c9 => k_is); (case k9 => k_is); (case a10 => k_is); (case l10 => k_is); (case c10 => k_is); (case k10 => k_is); (case a11 => k_is); (case l11 => k_is); (case c11 => k_is); (case k11 => k_is); (case a12 => k_is); (case l12 => k_is); (case c12 => k_is); (case k12 => k_is); (case a13 => k_is); (case l13 => k_is); (case c13 => k_is); (case k13 => k_is); (case a14 => k_is); (case l14 => k_is); (case c14 => k_is); (case k14 => k_is); (case a15 => k_is); (case l15 => k_is); (case c15 => k_is); (case k15 => k_is); (case a16 => k_is); (case l16 => k_is); (case c16 => k_is); (case k16 => k_is); (case a17 => k_is); (case l17 => k_is); (case c17 => k_is); (case k17 => k_is); (case a18 => k_is); (case l18 => k_is); (case c18 => k_is); (case k18 => k_is); (case a19 => k_is); (case l19 => k_is); (case c19 => k_is); (case k19 => k_is); (case a20 => k_is); (case l20 => k_is); (case c20 => k_is); (case k20 => k_is); (case a21 => k_is); (case l21 => k_is); (case c21 => k_is); (case k21 => k_is); (case a22 => k_is); (case l22 => k_is); (case c22 => k_is); (case k22 => k_is); (case a23 => k_is); (case l23 => k_is); (case c23 => k_is); (case k23 => k_is); (case a24 => k_is); (case l24 => k_is); (case c24 => k_is); (case k24 => k_is); (case a25 => k_is); (case l25 => k_is); (case c25 => k_is); (case k25 => k_is); (case a26 => k_is); (case l26 => k_is); (case c26 => k_is); (case k26 => k_is); (case a27 => k_is); (case l27 => k_is); (case c27 => k_is); (case k27 => k_is); (case a28 => k_is); (case l28 => k_is); (case c28 => k_is); (case k28 => k_is); (case a29 => k_is); (case l29 => k_is); (case c29 => k_is); (case k29 => k_is); (case a30 => k_is); (case l30 => k_is); (case c30 => k_is); (case k30 => k_is); (case a31 => k_is); (case l31 => k_is); (case c31 => k_is); (case k31 => k_is); (case a32 => k_is); (case l32 => k_is); (case c32 => k_is); (case k32 => k_is); (case a33 => k_is); (case l33 => k_is); (case c33 => k_is); (case k33 => k_is); (case a34 => k_is); (case l34 => k_is); (case c34 => k_is); (case k34 => k_is); (case a35 => k_is); (case l35 => k_is); (case c35 => k_is); (case k35 => k_is); (case a36 => k_is); (case l36 => k_is); (case c36 => k_is); (case k36 => k_is); (case a37 => k_is); (case l37 => k_is); (case c37 => k_is); (case k37 => k_is); (case a38 => k_is); (case l38 => k_is); (case c38 => k_is); (case k38 => k_is); (case a39 => k_is); (case l39 => k_is); (case c39 => k_is); (case k39 => k_is); (case a40 => k_is); (case l40 => k_is); (case c40 => k_is); (case k40 => k_is); (case z0 => k_is); (case z1 => k_is); (case z2 => k_is); (case z3 => k_is); (case z4 => k_is); (case z5 => k_is); (case z6 => k_is); (case z7 => k_is); (case z8 => k_is); (case z9 => k_is)
