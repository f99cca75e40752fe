import PyProof.Rows.All
import Wide.All
import OpenK.AllK
import Wide.FinOn
import HandS.ForMost
import HandS.DictComp
import HandS.Property
import HandS.SortRule
import HandS.SortInts
import HandS.NoneIn
import HandS.Wide
import HandS.WideBits
import HandS.Deep
import HandS.Style
import HandS.Conv
import HandS.IsInst
import HandS.Evl
import HandS.Codes
import HandS.Walk
import HandS.List
import HandS.Defaults
import PyProof.ReprRoads
import PyProof.ReprLen
import HandS.TupSets
import HandS.OwnEq
import HandS.More
import PyProof.InstNe
import KE.SortData
import HandS.Ends
import HandS.EndBits
import PySem.Challenge.RW_lanekeepers_k26_whole_loads_towards
set_option Elab.async false
set_option linter.all false
set_option maxRecDepth 100000
set_option maxHeartbeats 4000000
namespace K26
open PySem PySem.Spec PyProof.Rows L2
def topS (i : Nat) : Stmt := PySem.Challenge.pw_lanekeepers_k26_whole_loads_towards.main.body.getD i (.Pass ⟨0, 0, 0, 0⟩)
abbrev s_is_count : Stmt := topS 14
abbrev n_is_count : List Str := ["value"]
theorem sc_is_count : FnScope n_is_count ["value"] (defScope s_is_count) := ⟨rfl, rfl, rfl, by decide +kernel, rfl, by decide +kernel, by decide +kernel⟩
abbrev s_is_row : Stmt := topS 15
abbrev n_is_row : List Str := ["value"]
theorem sc_is_row : FnScope n_is_row ["value"] (defScope s_is_row) := ⟨rfl, rfl, rfl, by decide +kernel, rfl, by decide +kernel, by decide +kernel⟩
abbrev s_Country_init : Stmt := inClass (topS 19) 0
abbrev n_Country_init : List Str := ["self", "lanes", "pair", "goal", "place"]
theorem sc_Country_init : FnScope n_Country_init ["self", "lanes"] (defScope s_Country_init) := ⟨rfl, rfl, rfl, by decide +kernel, rfl, by decide +kernel, by decide +kernel⟩
abbrev s_Country_lanes : Stmt := inClass (topS 19) 1
abbrev n_Country_lanes : List Str := ["self"]
theorem sc_Country_lanes : FnScope n_Country_lanes ["self"] (defScope s_Country_lanes) := ⟨rfl, rfl, rfl, by decide +kernel, rfl, by decide +kernel, by decide +kernel⟩
abbrev s_Country_yards : Stmt := inClass (topS 19) 2
abbrev n_Country_yards : List Str := ["self"]
theorem sc_Country_yards : FnScope n_Country_yards ["self"] (defScope s_Country_yards) := ⟨rfl, rfl, rfl, by decide +kernel, rfl, by decide +kernel, by decide +kernel⟩
abbrev s_Country_gates : Stmt := inClass (topS 19) 3
abbrev n_Country_gates : List Str := ["self"]
theorem sc_Country_gates : FnScope n_Country_gates ["self"] (defScope s_Country_gates) := ⟨rfl, rfl, rfl, by decide +kernel, rfl, by decide +kernel, by decide +kernel⟩
abbrev s_Country_neighbours : Stmt := inClass (topS 19) 4
abbrev n_Country_neighbours : List Str := ["self", "place"]
theorem sc_Country_neighbours : FnScope n_Country_neighbours ["self", "place"] (defScope s_Country_neighbours) := ⟨rfl, rfl, rfl, by decide +kernel, rfl, by decide +kernel, by decide +kernel⟩
abbrev s_Country_ahead : Stmt := inClass (topS 19) 5
abbrev n_Country_ahead : List Str := ["self", "place", "goal"]
theorem sc_Country_ahead : FnScope n_Country_ahead ["self", "place", "goal"] (defScope s_Country_ahead) := ⟨rfl, rfl, rfl, by decide +kernel, rfl, by decide +kernel, by decide +kernel⟩
abbrev s_Country_eq : Stmt := inClass (topS 19) 6
abbrev n_Country_eq : List Str := ["self", "other"]
theorem sc_Country_eq : FnScope n_Country_eq ["self", "other"] (defScope s_Country_eq) := ⟨rfl, rfl, rfl, by decide +kernel, rfl, by decide +kernel, by decide +kernel⟩
abbrev s_is_place : Stmt := topS 20
abbrev n_is_place : List Str := ["country", "value"]
theorem sc_is_place : FnScope n_is_place ["country", "value"] (defScope s_is_place) := ⟨rfl, rfl, rfl, by decide +kernel, rfl, by decide +kernel, by decide +kernel⟩
abbrev s_is_yard : Stmt := topS 21
abbrev n_is_yard : List Str := ["country", "value"]
theorem sc_is_yard : FnScope n_is_yard ["country", "value"] (defScope s_is_yard) := ⟨rfl, rfl, rfl, by decide +kernel, rfl, by decide +kernel, by decide +kernel⟩
abbrev s_is_neighbour : Stmt := topS 22
abbrev n_is_neighbour : List Str := ["country", "place", "value"]
theorem sc_is_neighbour : FnScope n_is_neighbour ["country", "place", "value"] (defScope s_is_neighbour) := ⟨rfl, rfl, rfl, by decide +kernel, rfl, by decide +kernel, by decide +kernel⟩
abbrev s_are_lanes : Stmt := topS 23
abbrev n_are_lanes : List Str := ["value", "around", "pair", "place"]
theorem sc_are_lanes : FnScope n_are_lanes ["value"] (defScope s_are_lanes) := ⟨rfl, rfl, rfl, by decide +kernel, rfl, by decide +kernel, by decide +kernel⟩
abbrev s_is_pair_up_to : Stmt := topS 24
abbrev n_is_pair_up_to : List Str := ["value", "last", "place"]
theorem sc_is_pair_up_to : FnScope n_is_pair_up_to ["value", "last"] (defScope s_is_pair_up_to) := ⟨rfl, rfl, rfl, by decide +kernel, rfl, by decide +kernel, by decide +kernel⟩
abbrev s_neighbours_by_place : Stmt := topS 25
abbrev n_neighbours_by_place : List Str := ["lanes", "around", "one", "other", "place"]
theorem sc_neighbours_by_place : FnScope n_neighbours_by_place ["lanes"] (defScope s_neighbours_by_place) := ⟨rfl, rfl, rfl, by decide +kernel, rfl, by decide +kernel, by decide +kernel⟩
abbrev s_yards_among : Stmt := topS 26
abbrev n_yards_among : List Str := ["around", "place"]
theorem sc_yards_among : FnScope n_yards_among ["around"] (defScope s_yards_among) := ⟨rfl, rfl, rfl, by decide +kernel, rfl, by decide +kernel, by decide +kernel⟩
abbrev s_places_ahead : Stmt := topS 27
abbrev n_places_ahead : List Str := ["around", "goal", "ahead", "waiting", "here", "near"]
theorem sc_places_ahead : FnScope n_places_ahead ["around", "goal"] (defScope s_places_ahead) := ⟨rfl, rfl, rfl, by decide +kernel, rfl, by decide +kernel, by decide +kernel⟩
abbrev s_is_among : Stmt := topS 33
abbrev n_is_among : List Str := ["around", "value"]
theorem sc_is_among : FnScope n_is_among ["around", "value"] (defScope s_is_among) := ⟨rfl, rfl, rfl, by decide +kernel, rfl, by decide +kernel, by decide +kernel⟩
abbrev s_is_pair_of : Stmt := topS 34
abbrev n_is_pair_of : List Str := ["around", "origin", "target"]
theorem sc_is_pair_of : FnScope n_is_pair_of ["around", "origin", "target"] (defScope s_is_pair_of) := ⟨rfl, rfl, rfl, by decide +kernel, rfl, by decide +kernel, by decide +kernel⟩
abbrev s_pairs_of : Stmt := topS 35
abbrev n_pairs_of : List Str := ["around", "origin", "target"]
theorem sc_pairs_of : FnScope n_pairs_of ["around"] (defScope s_pairs_of) := ⟨rfl, rfl, rfl, by decide +kernel, rfl, by decide +kernel, by decide +kernel⟩
abbrev s_is_bound : Stmt := topS 36
abbrev n_is_bound : List Str := ["around", "value", "origin", "target", "most"]
theorem sc_is_bound : FnScope n_is_bound ["around", "value"] (defScope s_is_bound) := ⟨rfl, rfl, rfl, by decide +kernel, rfl, by decide +kernel, by decide +kernel⟩
abbrev s_is_alternative : Stmt := topS 37
abbrev n_is_alternative : List Str := ["around", "value", "places", "bounds", "bound"]
theorem sc_is_alternative : FnScope n_is_alternative ["around", "value"] (defScope s_is_alternative) := ⟨rfl, rfl, rfl, by decide +kernel, rfl, by decide +kernel, by decide +kernel⟩
abbrev s_is_book_of : Stmt := topS 38
abbrev n_is_book_of : List Str := ["around", "value", "alternative", "origin", "target"]
theorem sc_is_book_of : FnScope n_is_book_of ["around", "value"] (defScope s_is_book_of) := ⟨rfl, rfl, rfl, by decide +kernel, rfl, by decide +kernel, by decide +kernel⟩
abbrev s_is_load_of : Stmt := topS 39
abbrev n_is_load_of : List Str := ["around", "value", "pairs", "entry", "origin", "target", "_", "at"]
theorem sc_is_load_of : FnScope n_is_load_of ["around", "value"] (defScope s_is_load_of) := ⟨rfl, rfl, rfl, by decide +kernel, rfl, by decide +kernel, by decide +kernel⟩
abbrev s_is_entry : Stmt := topS 40
abbrev n_is_entry : List Str := ["around", "value"]
theorem sc_is_entry : FnScope n_is_entry ["around", "value"] (defScope s_is_entry) := ⟨rfl, rfl, rfl, by decide +kernel, rfl, by decide +kernel, by decide +kernel⟩
abbrev s_carts_of : Stmt := topS 41
abbrev n_carts_of : List Str := ["load", "origin", "target", "start", "end", "many"]
theorem sc_carts_of : FnScope n_carts_of ["load", "origin", "target"] (defScope s_carts_of) := ⟨rfl, rfl, rfl, by decide +kernel, rfl, by decide +kernel, by decide +kernel⟩
abbrev s_keeps : Stmt := topS 42
abbrev n_keeps : List Str := ["load", "bound", "origin", "target", "most"]
theorem sc_keeps : FnScope n_keeps ["load", "bound"] (defScope s_keeps) := ⟨rfl, rfl, rfl, by decide +kernel, rfl, by decide +kernel, by decide +kernel⟩
abbrev s_stands_by : Stmt := topS 43
abbrev n_stands_by : List Str := ["load", "alternative", "places", "bounds", "bound"]
theorem sc_stands_by : FnScope n_stands_by ["load", "alternative"] (defScope s_stands_by) := ⟨rfl, rfl, rfl, by decide +kernel, rfl, by decide +kernel, by decide +kernel⟩
abbrev s_stands_in : Stmt := topS 44
abbrev n_stands_in : List Str := ["load", "book", "alternative"]
theorem sc_stands_in : FnScope n_stands_in ["load", "book"] (defScope s_stands_in) := ⟨rfl, rfl, rfl, by decide +kernel, rfl, by decide +kernel, by decide +kernel⟩
abbrev s_copied_book : Stmt := topS 45
abbrev n_copied_book : List Str := ["book", "places", "bounds"]
theorem sc_copied_book : FnScope n_copied_book ["book"] (defScope s_copied_book) := ⟨rfl, rfl, rfl, by decide +kernel, rfl, by decide +kernel, by decide +kernel⟩
abbrev s_added : Stmt := topS 46
abbrev n_added : List Str := ["load", "origin", "target", "more", "others", "entry"]
theorem sc_added : FnScope n_added ["load", "origin", "target"] (defScope s_added) := ⟨rfl, rfl, rfl, by decide +kernel, rfl, by decide +kernel, by decide +kernel⟩
abbrev s_is_within : Stmt := topS 47
abbrev n_is_within : List Str := ["load", "other", "held", "origin", "target", "many"]
theorem sc_is_within : FnScope n_is_within ["load", "other"] (defScope s_is_within) := ⟨rfl, rfl, rfl, by decide +kernel, rfl, by decide +kernel, by decide +kernel⟩
abbrev s_check_country : Stmt := topS 49
abbrev n_check_country : List Str := ["country"]
theorem sc_check_country : FnScope n_check_country ["country"] (defScope s_check_country) := ⟨rfl, rfl, rfl, by decide +kernel, rfl, by decide +kernel, by decide +kernel⟩
abbrev s_check_yard : Stmt := topS 50
abbrev n_check_yard : List Str := ["country", "yard"]
theorem sc_check_yard : FnScope n_check_yard ["country", "yard"] (defScope s_check_yard) := ⟨rfl, rfl, rfl, by decide +kernel, rfl, by decide +kernel, by decide +kernel⟩
abbrev s_check_country_and_yard : Stmt := topS 51
abbrev n_check_country_and_yard : List Str := ["country", "yard"]
theorem sc_check_country_and_yard : FnScope n_check_country_and_yard ["country", "yard"] (defScope s_check_country_and_yard) := ⟨rfl, rfl, rfl, by decide +kernel, rfl, by decide +kernel, by decide +kernel⟩
abbrev s_check_target : Stmt := topS 52
abbrev n_check_target : List Str := ["country", "yard", "target"]
theorem sc_check_target : FnScope n_check_target ["country", "yard", "target"] (defScope s_check_target) := ⟨rfl, rfl, rfl, by decide +kernel, rfl, by decide +kernel, by decide +kernel⟩
abbrev s_check_book : Stmt := topS 53
abbrev n_check_book : List Str := ["country", "yard", "book"]
theorem sc_check_book : FnScope n_check_book ["country", "yard", "book"] (defScope s_check_book) := ⟨rfl, rfl, rfl, by decide +kernel, rfl, by decide +kernel, by decide +kernel⟩
abbrev s_check_load : Stmt := topS 54
abbrev n_check_load : List Str := ["country", "yard", "load"]
theorem sc_check_load : FnScope n_check_load ["country", "yard", "load"] (defScope s_check_load) := ⟨rfl, rfl, rfl, by decide +kernel, rfl, by decide +kernel, by decide +kernel⟩
abbrev s_Web_init : Stmt := inClass (topS 56) 0
abbrev n_Web_init : List Str := ["self", "country", "books", "yards", "yard", "book"]
theorem sc_Web_init : FnScope n_Web_init ["self", "country", "books"] (defScope s_Web_init) := ⟨rfl, rfl, rfl, by decide +kernel, rfl, by decide +kernel, by decide +kernel⟩
abbrev s_Web_country : Stmt := inClass (topS 56) 1
abbrev n_Web_country : List Str := ["self"]
theorem sc_Web_country : FnScope n_Web_country ["self"] (defScope s_Web_country) := ⟨rfl, rfl, rfl, by decide +kernel, rfl, by decide +kernel, by decide +kernel⟩
abbrev s_Web_books : Stmt := inClass (topS 56) 2
abbrev n_Web_books : List Str := ["self", "yard"]
theorem sc_Web_books : FnScope n_Web_books ["self"] (defScope s_Web_books) := ⟨rfl, rfl, rfl, by decide +kernel, rfl, by decide +kernel, by decide +kernel⟩
abbrev s_Web_book : Stmt := inClass (topS 56) 3
abbrev n_Web_book : List Str := ["self", "yard"]
theorem sc_Web_book : FnScope n_Web_book ["self", "yard"] (defScope s_Web_book) := ⟨rfl, rfl, rfl, by decide +kernel, rfl, by decide +kernel, by decide +kernel⟩
abbrev s_Web_eq : Stmt := inClass (topS 56) 4
abbrev n_Web_eq : List Str := ["self", "other"]
theorem sc_Web_eq : FnScope n_Web_eq ["self", "other"] (defScope s_Web_eq) := ⟨rfl, rfl, rfl, by decide +kernel, rfl, by decide +kernel, by decide +kernel⟩
abbrev s_check_web : Stmt := topS 57
abbrev n_check_web : List Str := ["web"]
theorem sc_check_web : FnScope n_check_web ["web"] (defScope s_check_web) := ⟨rfl, rfl, rfl, by decide +kernel, rfl, by decide +kernel, by decide +kernel⟩
abbrev s_is_at_most : Stmt := topS 60
abbrev n_is_at_most : List Str := ["country", "yard", "load", "other"]
theorem sc_is_at_most : FnScope n_is_at_most ["country", "yard", "load", "other"] (defScope s_is_at_most) := ⟨rfl, rfl, rfl, by decide +kernel, rfl, by decide +kernel, by decide +kernel⟩
abbrev s_lets : Stmt := topS 61
abbrev n_lets : List Str := ["web", "yard", "load"]
theorem sc_lets : FnScope n_lets ["web", "yard", "load"] (defScope s_lets) := ⟨rfl, rfl, rfl, by decide +kernel, rfl, by decide +kernel, by decide +kernel⟩
abbrev s_loads_towards : Stmt := topS 62
abbrev n_loads_towards : List Str := ["web", "yard", "target"]
theorem sc_loads_towards : FnScope n_loads_towards ["web", "yard", "target"] (defScope s_loads_towards) := ⟨rfl, rfl, rfl, by decide +kernel, rfl, by decide +kernel, by decide +kernel⟩
abbrev s_heaviest : Stmt := topS 63
abbrev n_heaviest : List Str := ["web", "yard", "target", "book", "pairs", "load"]
theorem sc_heaviest : FnScope n_heaviest ["web", "yard", "target"] (defScope s_heaviest) := ⟨rfl, rfl, rfl, by decide +kernel, rfl, by decide +kernel, by decide +kernel⟩
abbrev s_pairs_towards : Stmt := topS 64
abbrev n_pairs_towards : List Str := ["country", "yard", "target", "pair"]
theorem sc_pairs_towards : FnScope n_pairs_towards ["country", "yard", "target"] (defScope s_pairs_towards) := ⟨rfl, rfl, rfl, by decide +kernel, rfl, by decide +kernel, by decide +kernel⟩
abbrev s_standing_towards : Stmt := topS 65
abbrev n_standing_towards : List Str := ["web", "yard", "target", "loads", "load"]
theorem sc_standing_towards : FnScope n_standing_towards ["web", "yard", "target"] (defScope s_standing_towards) := ⟨rfl, rfl, rfl, by decide +kernel, rfl, by decide +kernel, by decide +kernel⟩
abbrev s_standing_loads : Stmt := topS 66
abbrev n_standing_loads : List Str := ["book", "pairs", "loads", "origin", "target", "load", "larger"]
theorem sc_standing_loads : FnScope n_standing_loads ["book", "pairs"] (defScope s_standing_loads) := ⟨rfl, rfl, rfl, by decide +kernel, rfl, by decide +kernel, by decide +kernel⟩
abbrev s_with_pair : Stmt := topS 67
abbrev n_with_pair : List Str := ["book", "load", "origin", "target", "found"]
theorem sc_with_pair : FnScope n_with_pair ["book", "load", "origin", "target"] (defScope s_with_pair) := ⟨rfl, rfl, rfl, by decide +kernel, rfl, by decide +kernel, by decide +kernel⟩
abbrev s_is_greatest : Stmt := topS 68
abbrev n_is_greatest : List Str := ["load", "book", "pairs", "origin", "target"]
theorem sc_is_greatest : FnScope n_is_greatest ["load", "book", "pairs"] (defScope s_is_greatest) := ⟨rfl, rfl, rfl, by decide +kernel, rfl, by decide +kernel, by decide +kernel⟩
abbrev s_l_pot : Stmt := topS 70
abbrev n_l_pot : List Str := ["_law_script", "_law_k", "_law_cell"]
theorem sc_l_pot : FnScope n_l_pot ["_law_script", "_law_k"] (defScope s_l_pot) := ⟨rfl, rfl, rfl, by decide +kernel, rfl, by decide +kernel, by decide +kernel⟩
abbrev s_l_draw : Stmt := topS 71
abbrev n_l_draw : List Str := ["_law_pot_here", "_law_many_here", "_law_digit"]
theorem sc_l_draw : FnScope n_l_draw ["_law_pot_here", "_law_many_here"] (defScope s_l_draw) := ⟨rfl, rfl, rfl, by decide +kernel, rfl, by decide +kernel, by decide +kernel⟩
abbrev s_l_pick : Stmt := topS 72
abbrev n_l_pick : List Str := ["_law_pot_here", "_law_some"]
theorem sc_l_pick : FnScope n_l_pick ["_law_pot_here", "_law_some"] (defScope s_l_pick) := ⟨rfl, rfl, rfl, by decide +kernel, rfl, by decide +kernel, by decide +kernel⟩
abbrev s_l_mixed : Stmt := topS 73
abbrev n_l_mixed : List Str := ["_law_pot_here", "_law_some", "_law_left", "_law_found", "_law_turn"]
theorem sc_l_mixed : FnScope n_l_mixed ["_law_pot_here", "_law_some"] (defScope s_l_mixed) := ⟨rfl, rfl, rfl, by decide +kernel, rfl, by decide +kernel, by decide +kernel⟩
abbrev s_l_lanes : Stmt := topS 74
abbrev n_l_lanes : List Str := ["_law_pot_here", "_law_many_here", "_law_lanes_here", "_law_ties", "_law_yard", "_law_open_ones", "_law_other", "_law_place", "_law_wanted", "_law_one"]
theorem sc_l_lanes : FnScope n_l_lanes ["_law_pot_here", "_law_many_here"] (defScope s_l_lanes) := ⟨rfl, rfl, rfl, by decide +kernel, rfl, by decide +kernel, by decide +kernel⟩
abbrev s_l_renumbered : Stmt := topS 75
abbrev n_l_renumbered : List Str := ["_law_pot_here", "_law_lanes_here", "_law_names", "_law_near", "_law_far"]
theorem sc_l_renumbered : FnScope n_l_renumbered ["_law_pot_here", "_law_lanes_here"] (defScope s_l_renumbered) := ⟨rfl, rfl, rfl, by decide +kernel, rfl, by decide +kernel, by decide +kernel⟩
abbrev s_l_beside : Stmt := topS 76
abbrev n_l_beside : List Str := ["_law_lanes_here", "_law_place", "_law_near", "_law_far"]
theorem sc_l_beside : FnScope n_l_beside ["_law_lanes_here", "_law_place"] (defScope s_l_beside) := ⟨rfl, rfl, rfl, by decide +kernel, rfl, by decide +kernel, by decide +kernel⟩
abbrev s_l_yards : Stmt := topS 77
abbrev n_l_yards : List Str := ["_law_lanes_here", "_law_place"]
theorem sc_l_yards : FnScope n_l_yards ["_law_lanes_here"] (defScope s_l_yards) := ⟨rfl, rfl, rfl, by decide +kernel, rfl, by decide +kernel, by decide +kernel⟩
abbrev s_l_pairs : Stmt := topS 78
abbrev n_l_pairs : List Str := ["_law_near", "_law_found", "_law_origin", "_law_target"]
theorem sc_l_pairs : FnScope n_l_pairs ["_law_near"] (defScope s_l_pairs) := ⟨rfl, rfl, rfl, by decide +kernel, rfl, by decide +kernel, by decide +kernel⟩
abbrev s_l_book : Stmt := topS 79
abbrev n_l_book : List Str := ["_law_pot_here", "_law_near", "_law_most", "_law_found", "_law_turn", "_law_places", "_law_bounds", "_law_bound", "_law_origin", "_law_target", "_law_way", "_law_least"]
theorem sc_l_book : FnScope n_l_book ["_law_pot_here", "_law_near", "_law_most"] (defScope s_l_book) := ⟨rfl, rfl, rfl, by decide +kernel, rfl, by decide +kernel, by decide +kernel⟩
abbrev s_l_many : Stmt := topS 80
abbrev n_l_many : List Str := ["_law_load", "_law_origin", "_law_target", "_law_row"]
theorem sc_l_many : FnScope n_l_many ["_law_load", "_law_origin", "_law_target"] (defScope s_l_many) := ⟨rfl, rfl, rfl, by decide +kernel, rfl, by decide +kernel, by decide +kernel⟩
abbrev s_l_stands : Stmt := topS 81
abbrev n_l_stands : List Str := ["_law_book_here", "_law_load", "_law_places", "_law_bounds", "_law_bound"]
theorem sc_l_stands : FnScope n_l_stands ["_law_book_here", "_law_load"] (defScope s_l_stands) := ⟨rfl, rfl, rfl, by decide +kernel, rfl, by decide +kernel, by decide +kernel⟩
abbrev s_l_more : Stmt := topS 82
abbrev n_l_more : List Str := ["_law_load", "_law_origin", "_law_target", "_law_found", "_law_row"]
theorem sc_l_more : FnScope n_l_more ["_law_load", "_law_origin", "_law_target"] (defScope s_l_more) := ⟨rfl, rfl, rfl, by decide +kernel, rfl, by decide +kernel, by decide +kernel⟩
abbrev s_l_standing : Stmt := topS 83
abbrev n_l_standing : List Str := ["_law_book_here", "_law_pairs_here", "_law_found", "_law_left", "_law_load", "_law_first", "_law_at", "_law_more_here"]
theorem sc_l_standing : FnScope n_l_standing ["_law_book_here", "_law_pairs_here"] (defScope s_l_standing) := ⟨rfl, rfl, rfl, by decide +kernel, rfl, by decide +kernel, by decide +kernel⟩
abbrev s_l_towards : Stmt := topS 84
abbrev n_l_towards : List Str := ["_law_book_here", "_law_near", "_law_target", "_law_pairs_here", "_law_pair", "_law_load"]
theorem sc_l_towards : FnScope n_l_towards ["_law_book_here", "_law_near", "_law_target"] (defScope s_l_towards) := ⟨rfl, rfl, rfl, by decide +kernel, rfl, by decide +kernel, by decide +kernel⟩
abbrev s_l_heaviest : Stmt := topS 85
abbrev n_l_heaviest : List Str := ["_law_book_here", "_law_near", "_law_target", "_law_found", "_law_load", "_law_more_here", "_law_origin"]
theorem sc_l_heaviest : FnScope n_l_heaviest ["_law_book_here", "_law_near", "_law_target"] (defScope s_l_heaviest) := ⟨rfl, rfl, rfl, by decide +kernel, rfl, by decide +kernel, by decide +kernel⟩
abbrev s_l_right : Stmt := topS 86
abbrev n_l_right : List Str := ["_law_pot_here", "_law_lanes_here", "_law_country", "_law_yards_here", "_law_books", "_law_yard", "_law_web", "_law_at", "_law_book_here", "_law_near", "_law_met", "_law_target", "_law_due", "_law_heavy", "_law_found", "_law_told", "_law_load", "_law_above", "_law_other", "_law_row"]
theorem sc_l_right : FnScope n_l_right ["_law_pot_here"] (defScope s_l_right) := ⟨rfl, rfl, rfl, by decide +kernel, rfl, by decide +kernel, by decide +kernel⟩
abbrev s_law : Stmt := topS 87
abbrev n_law : List Str := ["_law_script"]
theorem sc_law : FnScope n_law ["_law_script"] (defScope s_law) := ⟨rfl, rfl, rfl, by decide +kernel, rfl, by decide +kernel, by decide +kernel⟩
structure Adr where
  is_count : Addr
  is_count_fd : FuncData
  is_row : Addr
  is_row_fd : FuncData
  Country_init : Addr
  Country_init_fd : FuncData
  Country_lanes : Addr
  Country_lanes_fd : FuncData
  Country_lanes_p : Addr
  Country_yards : Addr
  Country_yards_fd : FuncData
  Country_yards_p : Addr
  Country_gates : Addr
  Country_gates_fd : FuncData
  Country_gates_p : Addr
  Country_neighbours : Addr
  Country_neighbours_fd : FuncData
  Country_ahead : Addr
  Country_ahead_fd : FuncData
  Country_eq : Addr
  Country_eq_fd : FuncData
  is_place : Addr
  is_place_fd : FuncData
  is_yard : Addr
  is_yard_fd : FuncData
  is_neighbour : Addr
  is_neighbour_fd : FuncData
  are_lanes : Addr
  are_lanes_fd : FuncData
  is_pair_up_to : Addr
  is_pair_up_to_fd : FuncData
  neighbours_by_place : Addr
  neighbours_by_place_fd : FuncData
  yards_among : Addr
  yards_among_fd : FuncData
  places_ahead : Addr
  places_ahead_fd : FuncData
  is_among : Addr
  is_among_fd : FuncData
  is_pair_of : Addr
  is_pair_of_fd : FuncData
  pairs_of : Addr
  pairs_of_fd : FuncData
  is_bound : Addr
  is_bound_fd : FuncData
  is_alternative : Addr
  is_alternative_fd : FuncData
  is_book_of : Addr
  is_book_of_fd : FuncData
  is_load_of : Addr
  is_load_of_fd : FuncData
  is_entry : Addr
  is_entry_fd : FuncData
  carts_of : Addr
  carts_of_fd : FuncData
  keeps : Addr
  keeps_fd : FuncData
  stands_by : Addr
  stands_by_fd : FuncData
  stands_in : Addr
  stands_in_fd : FuncData
  copied_book : Addr
  copied_book_fd : FuncData
  added : Addr
  added_fd : FuncData
  is_within : Addr
  is_within_fd : FuncData
  check_country : Addr
  check_country_fd : FuncData
  check_yard : Addr
  check_yard_fd : FuncData
  check_country_and_yard : Addr
  check_country_and_yard_fd : FuncData
  check_target : Addr
  check_target_fd : FuncData
  check_book : Addr
  check_book_fd : FuncData
  check_load : Addr
  check_load_fd : FuncData
  Web_init : Addr
  Web_init_fd : FuncData
  Web_country : Addr
  Web_country_fd : FuncData
  Web_country_p : Addr
  Web_books : Addr
  Web_books_fd : FuncData
  Web_books_p : Addr
  Web_book : Addr
  Web_book_fd : FuncData
  Web_eq : Addr
  Web_eq_fd : FuncData
  check_web : Addr
  check_web_fd : FuncData
  is_at_most : Addr
  is_at_most_fd : FuncData
  lets : Addr
  lets_fd : FuncData
  loads_towards : Addr
  loads_towards_fd : FuncData
  heaviest : Addr
  heaviest_fd : FuncData
  pairs_towards : Addr
  pairs_towards_fd : FuncData
  standing_towards : Addr
  standing_towards_fd : FuncData
  standing_loads : Addr
  standing_loads_fd : FuncData
  with_pair : Addr
  with_pair_fd : FuncData
  is_greatest : Addr
  is_greatest_fd : FuncData
  l_pot : Addr
  l_pot_fd : FuncData
  l_draw : Addr
  l_draw_fd : FuncData
  l_pick : Addr
  l_pick_fd : FuncData
  l_mixed : Addr
  l_mixed_fd : FuncData
  l_lanes : Addr
  l_lanes_fd : FuncData
  l_renumbered : Addr
  l_renumbered_fd : FuncData
  l_beside : Addr
  l_beside_fd : FuncData
  l_yards : Addr
  l_yards_fd : FuncData
  l_pairs : Addr
  l_pairs_fd : FuncData
  l_book : Addr
  l_book_fd : FuncData
  l_many : Addr
  l_many_fd : FuncData
  l_stands : Addr
  l_stands_fd : FuncData
  l_more : Addr
  l_more_fd : FuncData
  l_standing : Addr
  l_standing_fd : FuncData
  l_towards : Addr
  l_towards_fd : FuncData
  l_heaviest : Addr
  l_heaviest_fd : FuncData
  l_right : Addr
  l_right_fd : FuncData
  law : Addr
  law_fd : FuncData
  Country : Addr
  Web : Addr
structure Txt (K : PySem.W.Frag) (mg : Str → Option Value) (A : Adr) : Prop where
  F_is_count : Fun K "is_count" "is_count" s_is_count A.is_count A.is_count_fd
  b_is_count : L2.Binds K A.is_count_fd ["value"] []
  m_is_count : mg "is_count" = some (.ref A.is_count)
  F_is_row : Fun K "is_row" "is_row" s_is_row A.is_row A.is_row_fd
  b_is_row : L2.Binds K A.is_row_fd ["value"] []
  m_is_row : mg "is_row" = some (.ref A.is_row)
  F_Country_init : Fun K "__init__" "Country.__init__" s_Country_init A.Country_init A.Country_init_fd
  b_Country_init : L2.Binds K A.Country_init_fd ["self", "lanes"] []
  F_Country_lanes : Fun K "lanes" "Country.lanes" s_Country_lanes A.Country_lanes A.Country_lanes_fd
  b_Country_lanes : L2.Binds K A.Country_lanes_fd ["self"] []
  pr_Country_lanes : PropOf K A.Country "lanes" A.Country_lanes_p A.Country_lanes
  F_Country_yards : Fun K "yards" "Country.yards" s_Country_yards A.Country_yards A.Country_yards_fd
  b_Country_yards : L2.Binds K A.Country_yards_fd ["self"] []
  pr_Country_yards : PropOf K A.Country "yards" A.Country_yards_p A.Country_yards
  F_Country_gates : Fun K "gates" "Country.gates" s_Country_gates A.Country_gates A.Country_gates_fd
  b_Country_gates : L2.Binds K A.Country_gates_fd ["self"] []
  pr_Country_gates : PropOf K A.Country "gates" A.Country_gates_p A.Country_gates
  F_Country_neighbours : Fun K "neighbours" "Country.neighbours" s_Country_neighbours A.Country_neighbours A.Country_neighbours_fd
  b_Country_neighbours : L2.Binds K A.Country_neighbours_fd ["self", "place"] []
  me_Country_neighbours : Meth K A.Country "neighbours" A.Country_neighbours
  F_Country_ahead : Fun K "ahead" "Country.ahead" s_Country_ahead A.Country_ahead A.Country_ahead_fd
  b_Country_ahead : L2.Binds K A.Country_ahead_fd ["self", "place", "goal"] []
  me_Country_ahead : Meth K A.Country "ahead" A.Country_ahead
  F_Country_eq : Fun K "__eq__" "Country.__eq__" s_Country_eq A.Country_eq A.Country_eq_fd
  b_Country_eq : L2.Binds K A.Country_eq_fd ["self", "other"] []
  me_Country_eq : Meth K A.Country "__eq__" A.Country_eq
  F_is_place : Fun K "is_place" "is_place" s_is_place A.is_place A.is_place_fd
  b_is_place : L2.Binds K A.is_place_fd ["country", "value"] []
  m_is_place : mg "is_place" = some (.ref A.is_place)
  F_is_yard : Fun K "is_yard" "is_yard" s_is_yard A.is_yard A.is_yard_fd
  b_is_yard : L2.Binds K A.is_yard_fd ["country", "value"] []
  m_is_yard : mg "is_yard" = some (.ref A.is_yard)
  F_is_neighbour : Fun K "is_neighbour" "is_neighbour" s_is_neighbour A.is_neighbour A.is_neighbour_fd
  b_is_neighbour : L2.Binds K A.is_neighbour_fd ["country", "place", "value"] []
  m_is_neighbour : mg "is_neighbour" = some (.ref A.is_neighbour)
  F_are_lanes : Fun K "are_lanes" "are_lanes" s_are_lanes A.are_lanes A.are_lanes_fd
  b_are_lanes : L2.Binds K A.are_lanes_fd ["value"] []
  m_are_lanes : mg "are_lanes" = some (.ref A.are_lanes)
  F_is_pair_up_to : Fun K "is_pair_up_to" "is_pair_up_to" s_is_pair_up_to A.is_pair_up_to A.is_pair_up_to_fd
  b_is_pair_up_to : L2.Binds K A.is_pair_up_to_fd ["value", "last"] []
  m_is_pair_up_to : mg "is_pair_up_to" = some (.ref A.is_pair_up_to)
  F_neighbours_by_place : Fun K "neighbours_by_place" "neighbours_by_place" s_neighbours_by_place A.neighbours_by_place A.neighbours_by_place_fd
  b_neighbours_by_place : L2.Binds K A.neighbours_by_place_fd ["lanes"] []
  m_neighbours_by_place : mg "neighbours_by_place" = some (.ref A.neighbours_by_place)
  F_yards_among : Fun K "yards_among" "yards_among" s_yards_among A.yards_among A.yards_among_fd
  b_yards_among : L2.Binds K A.yards_among_fd ["around"] []
  m_yards_among : mg "yards_among" = some (.ref A.yards_among)
  F_places_ahead : Fun K "places_ahead" "places_ahead" s_places_ahead A.places_ahead A.places_ahead_fd
  b_places_ahead : L2.Binds K A.places_ahead_fd ["around", "goal"] []
  m_places_ahead : mg "places_ahead" = some (.ref A.places_ahead)
  F_is_among : Fun K "is_among" "is_among" s_is_among A.is_among A.is_among_fd
  b_is_among : L2.Binds K A.is_among_fd ["around", "value"] []
  m_is_among : mg "is_among" = some (.ref A.is_among)
  F_is_pair_of : Fun K "is_pair_of" "is_pair_of" s_is_pair_of A.is_pair_of A.is_pair_of_fd
  b_is_pair_of : L2.Binds K A.is_pair_of_fd ["around", "origin", "target"] []
  m_is_pair_of : mg "is_pair_of" = some (.ref A.is_pair_of)
  F_pairs_of : Fun K "pairs_of" "pairs_of" s_pairs_of A.pairs_of A.pairs_of_fd
  b_pairs_of : L2.Binds K A.pairs_of_fd ["around"] []
  m_pairs_of : mg "pairs_of" = some (.ref A.pairs_of)
  F_is_bound : Fun K "is_bound" "is_bound" s_is_bound A.is_bound A.is_bound_fd
  b_is_bound : L2.Binds K A.is_bound_fd ["around", "value"] []
  m_is_bound : mg "is_bound" = some (.ref A.is_bound)
  F_is_alternative : Fun K "is_alternative" "is_alternative" s_is_alternative A.is_alternative A.is_alternative_fd
  b_is_alternative : L2.Binds K A.is_alternative_fd ["around", "value"] []
  m_is_alternative : mg "is_alternative" = some (.ref A.is_alternative)
  F_is_book_of : Fun K "is_book_of" "is_book_of" s_is_book_of A.is_book_of A.is_book_of_fd
  b_is_book_of : L2.Binds K A.is_book_of_fd ["around", "value"] []
  m_is_book_of : mg "is_book_of" = some (.ref A.is_book_of)
  F_is_load_of : Fun K "is_load_of" "is_load_of" s_is_load_of A.is_load_of A.is_load_of_fd
  b_is_load_of : L2.Binds K A.is_load_of_fd ["around", "value"] []
  m_is_load_of : mg "is_load_of" = some (.ref A.is_load_of)
  F_is_entry : Fun K "is_entry" "is_entry" s_is_entry A.is_entry A.is_entry_fd
  b_is_entry : L2.Binds K A.is_entry_fd ["around", "value"] []
  m_is_entry : mg "is_entry" = some (.ref A.is_entry)
  F_carts_of : Fun K "carts_of" "carts_of" s_carts_of A.carts_of A.carts_of_fd
  b_carts_of : L2.Binds K A.carts_of_fd ["load", "origin", "target"] []
  m_carts_of : mg "carts_of" = some (.ref A.carts_of)
  F_keeps : Fun K "keeps" "keeps" s_keeps A.keeps A.keeps_fd
  b_keeps : L2.Binds K A.keeps_fd ["load", "bound"] []
  m_keeps : mg "keeps" = some (.ref A.keeps)
  F_stands_by : Fun K "stands_by" "stands_by" s_stands_by A.stands_by A.stands_by_fd
  b_stands_by : L2.Binds K A.stands_by_fd ["load", "alternative"] []
  m_stands_by : mg "stands_by" = some (.ref A.stands_by)
  F_stands_in : Fun K "stands_in" "stands_in" s_stands_in A.stands_in A.stands_in_fd
  b_stands_in : L2.Binds K A.stands_in_fd ["load", "book"] []
  m_stands_in : mg "stands_in" = some (.ref A.stands_in)
  F_copied_book : Fun K "copied_book" "copied_book" s_copied_book A.copied_book A.copied_book_fd
  b_copied_book : L2.Binds K A.copied_book_fd ["book"] []
  m_copied_book : mg "copied_book" = some (.ref A.copied_book)
  F_added : Fun K "added" "added" s_added A.added A.added_fd
  b_added : L2.Binds K A.added_fd ["load", "origin", "target"] []
  m_added : mg "added" = some (.ref A.added)
  F_is_within : Fun K "is_within" "is_within" s_is_within A.is_within A.is_within_fd
  b_is_within : L2.Binds K A.is_within_fd ["load", "other"] []
  m_is_within : mg "is_within" = some (.ref A.is_within)
  F_check_country : Fun K "check_country" "check_country" s_check_country A.check_country A.check_country_fd
  b_check_country : L2.Binds K A.check_country_fd ["country"] []
  m_check_country : mg "check_country" = some (.ref A.check_country)
  F_check_yard : Fun K "check_yard" "check_yard" s_check_yard A.check_yard A.check_yard_fd
  b_check_yard : L2.Binds K A.check_yard_fd ["country", "yard"] []
  m_check_yard : mg "check_yard" = some (.ref A.check_yard)
  F_check_country_and_yard : Fun K "check_country_and_yard" "check_country_and_yard" s_check_country_and_yard A.check_country_and_yard A.check_country_and_yard_fd
  b_check_country_and_yard : L2.Binds K A.check_country_and_yard_fd ["country", "yard"] []
  m_check_country_and_yard : mg "check_country_and_yard" = some (.ref A.check_country_and_yard)
  F_check_target : Fun K "check_target" "check_target" s_check_target A.check_target A.check_target_fd
  b_check_target : L2.Binds K A.check_target_fd ["country", "yard", "target"] []
  m_check_target : mg "check_target" = some (.ref A.check_target)
  F_check_book : Fun K "check_book" "check_book" s_check_book A.check_book A.check_book_fd
  b_check_book : L2.Binds K A.check_book_fd ["country", "yard", "book"] []
  m_check_book : mg "check_book" = some (.ref A.check_book)
  F_check_load : Fun K "check_load" "check_load" s_check_load A.check_load A.check_load_fd
  b_check_load : L2.Binds K A.check_load_fd ["country", "yard", "load"] []
  m_check_load : mg "check_load" = some (.ref A.check_load)
  F_Web_init : Fun K "__init__" "Web.__init__" s_Web_init A.Web_init A.Web_init_fd
  b_Web_init : L2.Binds K A.Web_init_fd ["self", "country", "books"] []
  F_Web_country : Fun K "country" "Web.country" s_Web_country A.Web_country A.Web_country_fd
  b_Web_country : L2.Binds K A.Web_country_fd ["self"] []
  pr_Web_country : PropOf K A.Web "country" A.Web_country_p A.Web_country
  F_Web_books : Fun K "books" "Web.books" s_Web_books A.Web_books A.Web_books_fd
  b_Web_books : L2.Binds K A.Web_books_fd ["self"] []
  pr_Web_books : PropOf K A.Web "books" A.Web_books_p A.Web_books
  F_Web_book : Fun K "book" "Web.book" s_Web_book A.Web_book A.Web_book_fd
  b_Web_book : L2.Binds K A.Web_book_fd ["self", "yard"] []
  me_Web_book : Meth K A.Web "book" A.Web_book
  F_Web_eq : Fun K "__eq__" "Web.__eq__" s_Web_eq A.Web_eq A.Web_eq_fd
  b_Web_eq : L2.Binds K A.Web_eq_fd ["self", "other"] []
  me_Web_eq : Meth K A.Web "__eq__" A.Web_eq
  F_check_web : Fun K "check_web" "check_web" s_check_web A.check_web A.check_web_fd
  b_check_web : L2.Binds K A.check_web_fd ["web"] []
  m_check_web : mg "check_web" = some (.ref A.check_web)
  F_is_at_most : Fun K "is_at_most" "is_at_most" s_is_at_most A.is_at_most A.is_at_most_fd
  b_is_at_most : L2.Binds K A.is_at_most_fd ["country", "yard", "load", "other"] []
  m_is_at_most : mg "is_at_most" = some (.ref A.is_at_most)
  F_lets : Fun K "lets" "lets" s_lets A.lets A.lets_fd
  b_lets : L2.Binds K A.lets_fd ["web", "yard", "load"] []
  m_lets : mg "lets" = some (.ref A.lets)
  F_loads_towards : Fun K "loads_towards" "loads_towards" s_loads_towards A.loads_towards A.loads_towards_fd
  b_loads_towards : L2.Binds K A.loads_towards_fd ["web", "yard", "target"] []
  m_loads_towards : mg "loads_towards" = some (.ref A.loads_towards)
  F_heaviest : Fun K "heaviest" "heaviest" s_heaviest A.heaviest A.heaviest_fd
  b_heaviest : L2.Binds K A.heaviest_fd ["web", "yard", "target"] []
  m_heaviest : mg "heaviest" = some (.ref A.heaviest)
  F_pairs_towards : Fun K "pairs_towards" "pairs_towards" s_pairs_towards A.pairs_towards A.pairs_towards_fd
  b_pairs_towards : L2.Binds K A.pairs_towards_fd ["country", "yard", "target"] []
  m_pairs_towards : mg "pairs_towards" = some (.ref A.pairs_towards)
  F_standing_towards : Fun K "standing_towards" "standing_towards" s_standing_towards A.standing_towards A.standing_towards_fd
  b_standing_towards : L2.Binds K A.standing_towards_fd ["web", "yard", "target"] []
  m_standing_towards : mg "standing_towards" = some (.ref A.standing_towards)
  F_standing_loads : Fun K "standing_loads" "standing_loads" s_standing_loads A.standing_loads A.standing_loads_fd
  b_standing_loads : L2.Binds K A.standing_loads_fd ["book", "pairs"] []
  m_standing_loads : mg "standing_loads" = some (.ref A.standing_loads)
  F_with_pair : Fun K "with_pair" "with_pair" s_with_pair A.with_pair A.with_pair_fd
  b_with_pair : L2.Binds K A.with_pair_fd ["book", "load", "origin", "target"] []
  m_with_pair : mg "with_pair" = some (.ref A.with_pair)
  F_is_greatest : Fun K "is_greatest" "is_greatest" s_is_greatest A.is_greatest A.is_greatest_fd
  b_is_greatest : L2.Binds K A.is_greatest_fd ["load", "book", "pairs"] []
  m_is_greatest : mg "is_greatest" = some (.ref A.is_greatest)
  F_l_pot : Fun K "_law_pot" "_law_pot" s_l_pot A.l_pot A.l_pot_fd
  b_l_pot : L2.Binds K A.l_pot_fd ["_law_script", "_law_k"] []
  m_l_pot : mg "_law_pot" = some (.ref A.l_pot)
  F_l_draw : Fun K "_law_draw" "_law_draw" s_l_draw A.l_draw A.l_draw_fd
  b_l_draw : L2.Binds K A.l_draw_fd ["_law_pot_here", "_law_many_here"] []
  m_l_draw : mg "_law_draw" = some (.ref A.l_draw)
  F_l_pick : Fun K "_law_pick" "_law_pick" s_l_pick A.l_pick A.l_pick_fd
  b_l_pick : L2.Binds K A.l_pick_fd ["_law_pot_here", "_law_some"] []
  m_l_pick : mg "_law_pick" = some (.ref A.l_pick)
  F_l_mixed : Fun K "_law_mixed" "_law_mixed" s_l_mixed A.l_mixed A.l_mixed_fd
  b_l_mixed : L2.Binds K A.l_mixed_fd ["_law_pot_here", "_law_some"] []
  m_l_mixed : mg "_law_mixed" = some (.ref A.l_mixed)
  F_l_lanes : Fun K "_law_lanes" "_law_lanes" s_l_lanes A.l_lanes A.l_lanes_fd
  b_l_lanes : L2.Binds K A.l_lanes_fd ["_law_pot_here", "_law_many_here"] []
  m_l_lanes : mg "_law_lanes" = some (.ref A.l_lanes)
  F_l_renumbered : Fun K "_law_renumbered" "_law_renumbered" s_l_renumbered A.l_renumbered A.l_renumbered_fd
  b_l_renumbered : L2.Binds K A.l_renumbered_fd ["_law_pot_here", "_law_lanes_here"] []
  m_l_renumbered : mg "_law_renumbered" = some (.ref A.l_renumbered)
  F_l_beside : Fun K "_law_beside" "_law_beside" s_l_beside A.l_beside A.l_beside_fd
  b_l_beside : L2.Binds K A.l_beside_fd ["_law_lanes_here", "_law_place"] []
  m_l_beside : mg "_law_beside" = some (.ref A.l_beside)
  F_l_yards : Fun K "_law_yards" "_law_yards" s_l_yards A.l_yards A.l_yards_fd
  b_l_yards : L2.Binds K A.l_yards_fd ["_law_lanes_here"] []
  m_l_yards : mg "_law_yards" = some (.ref A.l_yards)
  F_l_pairs : Fun K "_law_pairs" "_law_pairs" s_l_pairs A.l_pairs A.l_pairs_fd
  b_l_pairs : L2.Binds K A.l_pairs_fd ["_law_near"] []
  m_l_pairs : mg "_law_pairs" = some (.ref A.l_pairs)
  F_l_book : Fun K "_law_book" "_law_book" s_l_book A.l_book A.l_book_fd
  b_l_book : L2.Binds K A.l_book_fd ["_law_pot_here", "_law_near", "_law_most"] []
  m_l_book : mg "_law_book" = some (.ref A.l_book)
  F_l_many : Fun K "_law_many" "_law_many" s_l_many A.l_many A.l_many_fd
  b_l_many : L2.Binds K A.l_many_fd ["_law_load", "_law_origin", "_law_target"] []
  m_l_many : mg "_law_many" = some (.ref A.l_many)
  F_l_stands : Fun K "_law_stands" "_law_stands" s_l_stands A.l_stands A.l_stands_fd
  b_l_stands : L2.Binds K A.l_stands_fd ["_law_book_here", "_law_load"] []
  m_l_stands : mg "_law_stands" = some (.ref A.l_stands)
  F_l_more : Fun K "_law_more" "_law_more" s_l_more A.l_more A.l_more_fd
  b_l_more : L2.Binds K A.l_more_fd ["_law_load", "_law_origin", "_law_target"] []
  m_l_more : mg "_law_more" = some (.ref A.l_more)
  F_l_standing : Fun K "_law_standing" "_law_standing" s_l_standing A.l_standing A.l_standing_fd
  b_l_standing : L2.Binds K A.l_standing_fd ["_law_book_here", "_law_pairs_here"] []
  m_l_standing : mg "_law_standing" = some (.ref A.l_standing)
  F_l_towards : Fun K "_law_towards" "_law_towards" s_l_towards A.l_towards A.l_towards_fd
  b_l_towards : L2.Binds K A.l_towards_fd ["_law_book_here", "_law_near", "_law_target"] []
  m_l_towards : mg "_law_towards" = some (.ref A.l_towards)
  F_l_heaviest : Fun K "_law_heaviest" "_law_heaviest" s_l_heaviest A.l_heaviest A.l_heaviest_fd
  b_l_heaviest : L2.Binds K A.l_heaviest_fd ["_law_book_here", "_law_near", "_law_target"] []
  m_l_heaviest : mg "_law_heaviest" = some (.ref A.l_heaviest)
  F_l_right : Fun K "_law_right" "_law_right" s_l_right A.l_right A.l_right_fd
  b_l_right : L2.Binds K A.l_right_fd ["_law_pot_here"] []
  m_l_right : mg "_law_right" = some (.ref A.l_right)
  F_law : Fun K "law" "law" s_law A.law A.law_fd
  b_law : L2.Binds K A.law_fd ["_law_script"] []
  m_law : mg "law" = some (.ref A.law)
  ic_Country : C8.InsC K A.Country
  ne_Country : PySem.W.findIn K (.ref A.Country) "__ne__" = some (some (.builtin "object.__ne__"))
  cl_Country : Cls K A.Country
  mk_Country : Mk K A.Country A.Country_init
  m_Country : mg "Country" = some (.ref A.Country)
  na_Country_lanes : NoAttr K A.Country "_lanes"
  na_Country_around : NoAttr K A.Country "_around"
  na_Country_ahead : NoAttr K A.Country "_ahead"
  na_Country_yards : NoAttr K A.Country "_yards"
  na_Country_gates : NoAttr K A.Country "_gates"
  ic_Web : C8.InsC K A.Web
  ne_Web : PySem.W.findIn K (.ref A.Web) "__ne__" = some (some (.builtin "object.__ne__"))
  cl_Web : Cls K A.Web
  mk_Web : Mk K A.Web A.Web_init
  m_Web : mg "Web" = some (.ref A.Web)
  na_Web_country : NoAttr K A.Web "_country"
  na_Web_books : NoAttr K A.Web "_books"
  g_MOST_LANES_AT_A_PLACE : ∃ t, mg "MOST_LANES_AT_A_PLACE" = some (.int 4 t)
  g_MOST_YARDS : ∃ t, mg "MOST_YARDS" = some (.int 7 t)
  g_MOST_PLACES : ∃ t, mg "MOST_PLACES" = some (.int 6 t)
  g_MOST_OF_A_BOUND : ∃ t, mg "MOST_OF_A_BOUND" = some (.int 6 t)
  g_MOST_BOUNDS : ∃ t, mg "MOST_BOUNDS" = some (.int 6 t)
  g_MOST_ALTERNATIVES : ∃ t, mg "MOST_ALTERNATIVES" = some (.int 4 t)
  g_MOST_LOADS : ∃ t, mg "MOST_LOADS" = some (.int 400 t)
  n_abs : mg "abs" = none
  n_all : mg "all" = none
  n_any : mg "any" = none
  n_bool : mg "bool" = none
  n_divmod : mg "divmod" = none
  n_int : mg "int" = none
  n_isinstance : mg "isinstance" = none
  n_len : mg "len" = none
  n_list : mg "list" = none
  n_max : mg "max" = none
  n_min : mg "min" = none
  n_range : mg "range" = none
  n_repr : mg "repr" = none
  n_sorted : mg "sorted" = none
  n_sum : mg "sum" = none
  n_tuple : mg "tuple" = none
  n_zip : mg "zip" = none
end K26

set_option linter.all false
/-! Trees told by their lanes: adjacency, simple paths, and that these are unique. Plain Lean. -/
namespace TM
abbrev Lanes := List (Nat × Nat)
def Adj (L : Lanes) (a b : Nat) : Prop := (a, b) ∈ L ∨ (b, a) ∈ L
theorem Adj.symm {L : Lanes} {a b : Nat} (h : Adj L a b) : Adj L b a := h.elim Or.inr Or.inl

/-- vertices (the newest first) and lanes (the newest first): each new vertex hangs on an elder one -/
inductive Grow : List Nat → Lanes → Prop
  | one (v : Nat) : Grow [v] []
  | step {vs : List Nat} {L : Lanes} {a b : Nat} : Grow vs L → a ∈ vs → b ∉ vs → Grow (b :: vs) ((a, b) :: L)

theorem Grow.ends {vs : List Nat} {L : Lanes} (g : Grow vs L) : ∀ {a b : Nat}, Adj L a b → a ∈ vs ∧ b ∈ vs := by
  induction g with
  | one v => intro a b h; rcases h with h | h <;> cases h
  | step g ha hb ih =>
    intro x y h
    rcases h with h | h
    · rcases List.mem_cons.mp h with e | h
      · cases e; exact ⟨List.mem_cons_of_mem _ ha, List.mem_cons_self⟩
      · exact ⟨List.mem_cons_of_mem _ (ih (.inl h)).1, List.mem_cons_of_mem _ (ih (.inl h)).2⟩
    · rcases List.mem_cons.mp h with e | h
      · cases e; exact ⟨List.mem_cons_self, List.mem_cons_of_mem _ ha⟩
      · exact ⟨List.mem_cons_of_mem _ (ih (.inr h)).1, List.mem_cons_of_mem _ (ih (.inr h)).2⟩
theorem Grow.nodup {vs : List Nat} {L : Lanes} (g : Grow vs L) : vs.Nodup := by
  induction g with
  | one v => simp
  | step g ha hb ih => exact List.nodup_cons.mpr ⟨hb, ih⟩
theorem Grow.length {vs : List Nat} {L : Lanes} (g : Grow vs L) : vs.length = L.length + 1 := by
  induction g with
  | one v => rfl
  | step g ha hb ih => simp [ih]
/-- the newest vertex has one neighbour -/
theorem leaf_only {vs : List Nat} {L : Lanes} (g : Grow vs L) {a b c : Nat} (hb : b ∉ vs) (h : Adj ((a, b) :: L) b c) : c = a := by
  rcases h with h | h
  · rcases List.mem_cons.mp h with e | h
    · cases e; rfl
    · exact absurd (g.ends (.inl h)).1 hb
  · rcases List.mem_cons.mp h with e | h
    · cases e; rfl
    · exact absurd (g.ends (.inr h)).1 hb
theorem Adj.older {vs : List Nat} {L : Lanes} (g : Grow vs L) {a b x y : Nat} (hb : b ∉ vs) (h : Adj ((a, b) :: L) x y) (hx : x ≠ b) (hy : y ≠ b) : Adj L x y := by
  rcases h with h | h
  · rcases List.mem_cons.mp h with e | h
    · cases e; exact absurd rfl hy
    · exact .inl h
  · rcases List.mem_cons.mp h with e | h
    · cases e; exact absurd rfl hx
    · exact .inr h
theorem Grow.irrefl {vs : List Nat} {L : Lanes} (g : Grow vs L) : ∀ {a : Nat}, ¬ Adj L a a := by
  induction g with
  | one v => intro a h; rcases h with h | h <;> cases h
  | @step vs L a b g ha hb ih =>
    intro x h
    rcases h with h | h <;>
    · rcases List.mem_cons.mp h with e | h
      · cases e; exact hb ha
      · exact ih (.inl h)

/-! ### paths: neighbours one behind the other, none twice -/
def Chain (L : Lanes) : List Nat → Prop
  | [] => True
  | [_] => True
  | x :: y :: r => Adj L x y ∧ Chain L (y :: r)
structure Path (L : Lanes) (s t : Nat) (p : List Nat) : Prop where
  ch : Chain L p
  nd : p.Nodup
  hd : p.head? = some s
  lt : p.getLast? = some t
theorem Chain.tail {L : Lanes} {x : Nat} {r : List Nat} (h : Chain L (x :: r)) : Chain L r := by
  cases r with
  | nil => trivial
  | cons y r => exact h.2
theorem Chain.snoc {L : Lanes} {x : Nat} : ∀ {p : List Nat} {t : Nat}, Chain L p → p.getLast? = some t → Adj L t x → Chain L (p ++ [x])
  | [], _, _, h, _ => by simp at h
  | [a], t, _, h, k => by
    have e : a = t := Option.some.inj h
    subst e
    exact ⟨k, trivial⟩
  | a :: b :: r, t, h, e, k => by
    refine ⟨h.1, Chain.snoc (p := b :: r) h.2 ?_ k⟩
    rw [List.getLast?_cons_cons] at e
    exact e
theorem Chain.left {L : Lanes} : ∀ {p q : List Nat}, Chain L (p ++ q) → Chain L p
  | [], _, _ => trivial
  | [_], _, _ => trivial
  | a :: b :: r, q, h => ⟨h.1, Chain.left (p := b :: r) (q := q) h.2⟩
theorem Chain.right {L : Lanes} : ∀ {p q : List Nat}, Chain L (p ++ q) → Chain L q
  | [], _, h => h
  | _ :: r, q, h => Chain.right (p := r) (q := q) h.tail
theorem Chain.reverse {L : Lanes} : ∀ {p : List Nat}, Chain L p → Chain L p.reverse
  | [], _ => trivial
  | [_], _ => trivial
  | a :: b :: r, h => by
    have ih := Chain.reverse (p := b :: r) h.2
    rw [List.reverse_cons]
    refine Chain.snoc (t := b) ih ?_ h.1.symm
    rw [List.getLast?_reverse]
    rfl
theorem Path.reverse {L : Lanes} {s t : Nat} {p : List Nat} (h : Path L s t p) : Path L t s p.reverse :=
  ⟨h.ch.reverse, (List.reverse_perm p).nodup_iff.mpr h.nd, by rw [List.head?_reverse]; exact h.lt, by rw [List.getLast?_reverse]; exact h.hd⟩
theorem Chain.mono {L L' : Lanes} (k : ∀ x y, Adj L x y → Adj L' x y) : ∀ {p : List Nat}, Chain L p → Chain L' p
  | [], _ => trivial
  | [_], _ => trivial
  | _ :: _ :: _, h => ⟨k _ _ h.1, Chain.mono k h.2⟩
/-- a chain without the leaf is a chain of the elder lanes -/
theorem Chain.older {vs : List Nat} {L : Lanes} (g : Grow vs L) {a b : Nat} (hb : b ∉ vs) : ∀ {p : List Nat}, Chain ((a, b) :: L) p → b ∉ p → Chain L p
  | [], _, _ => trivial
  | [_], _, _ => trivial
  | x :: y :: r, h, n => ⟨h.1.older g hb (fun e => n (e ▸ List.mem_cons_self)) (fun e => n (e ▸ List.mem_cons_of_mem _ List.mem_cons_self)), Chain.older g hb h.2 fun e => n (List.mem_cons_of_mem _ e)⟩
/-- the leaf stands at an end alone -/
theorem leaf_end {vs : List Nat} {L : Lanes} (g : Grow vs L) {a b : Nat} (hb : b ∉ vs) : ∀ {p : List Nat} {t : Nat}, Chain ((a, b) :: L) p → p.Nodup → p.getLast? = some t → b ∈ p → p.head? = some b ∨ t = b
  | [], _, _, _, _, h => by cases h
  | [x], t, _, _, e, h => by
    have : b = x := by simpa using h
    subst this
    exact .inl rfl
  | x :: y :: r, t, c, nd, e, h => by
    rw [List.getLast?_cons_cons] at e
    rcases List.mem_cons.mp h with q | h
    · subst q; exact .inl rfl
    · have nd' := (List.nodup_cons.mp nd).2
      rcases leaf_end g hb c.2 nd' e h with q | q
      · have q : y = b := Option.some.inj q
        subst q
        -- y is the leaf: x is a, and what follows too
        have ex : x = a := leaf_only g hb c.1.symm
        cases r with
        | nil => exact .inr (Option.some.inj e).symm
        | cons z r =>
          have ez : z = a := leaf_only g hb c.2.1
          subst ex
          subst ez
          exact absurd (List.mem_cons_of_mem _ List.mem_cons_self) (List.nodup_cons.mp nd).1
      · exact .inr q
theorem path_from_leaf {vs : List Nat} {L : Lanes} (g : Grow vs L) {a b t : Nat} (hb : b ∉ vs) {p : List Nat} (h : Path ((a, b) :: L) b t p) (ht : t ≠ b) : ∃ q, p = b :: q ∧ Path L a t q := by
  obtain ⟨c, nd, hd, lt⟩ := h
  cases p with
  | nil => cases hd
  | cons x r =>
    have e : x = b := Option.some.inj hd
    subst e
    cases r with
    | nil => exact absurd (Option.some.inj lt).symm ht
    | cons y r =>
      have ey : y = a := leaf_only g hb c.1
      subst ey
      have nx := (List.nodup_cons.mp nd).1
      refine ⟨_, rfl, Chain.older g hb c.2 nx, (List.nodup_cons.mp nd).2, rfl, ?_⟩
      rw [List.getLast?_cons_cons] at lt
      exact lt
theorem path_one {L : Lanes} {s : Nat} {p : List Nat} (h : Path L s s p) : p = [s] := by
  obtain ⟨c, nd, hd, lt⟩ := h
  cases p with
  | nil => cases hd
  | cons x r =>
    have e : x = s := Option.some.inj hd
    subst e
    cases r with
    | nil => rfl
    | cons y r =>
      rw [List.getLast?_cons_cons] at lt
      exact absurd (List.mem_of_getLast? lt) (List.nodup_cons.mp nd).1
/-- SIMPLE PATHS ARE UNIQUE -/
theorem Grow.unique {vs : List Nat} {L : Lanes} (g : Grow vs L) : ∀ {s t : Nat} {p q : List Nat}, Path L s t p → Path L s t q → p = q := by
  induction g with
  | one v =>
    intro s t p q hp hq
    have f : ∀ {p : List Nat}, Path [] s t p → p = [s] := fun {p} h => by
      obtain ⟨c, nd, hd, lt⟩ := h
      cases p with
      | nil => cases hd
      | cons x r =>
        have e : x = s := Option.some.inj hd
        subst e
        cases r with
        | nil => rfl
        | cons y r => exact absurd c.1 (fun h => by rcases h with h | h <;> cases h)
    rw [f hp, f hq]
  | @step vs L a b g ha hb ih =>
    intro s t p q hp hq
    by_cases hs : s = b
    · subst hs
      by_cases ht : t = s
      · subst ht
        rw [path_one hp, path_one hq]
      · obtain ⟨p', rfl, h1⟩ := path_from_leaf g hb hp ht
        obtain ⟨q', rfl, h2⟩ := path_from_leaf g hb hq ht
        rw [ih h1 h2]
    · by_cases ht : t = b
      · subst ht
        have f := path_from_leaf g hb hp.reverse hs
        have f2 := path_from_leaf g hb hq.reverse hs
        obtain ⟨p', e1, h1⟩ := f
        obtain ⟨q', e2, h2⟩ := f2
        have e := ih h1 h2
        subst e
        have := e1.trans e2.symm
        have z := congrArg List.reverse this
        rwa [List.reverse_reverse, List.reverse_reverse] at z
      · have out : ∀ {p : List Nat}, Path ((a, b) :: L) s t p → Path L s t p := fun {p} h => by
          have nb : b ∉ p := fun hm => by
            rcases leaf_end g hb h.ch h.nd h.lt hm with e | e
            · exact hs (Option.some.inj (h.hd.symm.trans e))
            · exact ht e
          exact ⟨h.ch.older g hb nb, h.nd, h.hd, h.lt⟩
        exact ih (out hp) (out hq)
/-- and between any two there is one -/
theorem Grow.conn {vs : List Nat} {L : Lanes} (g : Grow vs L) : ∀ {s t : Nat}, s ∈ vs → t ∈ vs → ∃ p, Path L s t p ∧ ∀ x ∈ p, x ∈ vs := by
  induction g with
  | one v =>
    intro s t hs ht
    rw [List.mem_singleton] at hs ht
    rw [hs, ht]
    exact ⟨[v], ⟨trivial, by simp, rfl, rfl⟩, by simp⟩
  | @step vs L a b g ha hb ih =>
    have up : ∀ {s t : Nat}, s ∈ vs → t ∈ vs → ∃ p, Path ((a, b) :: L) s t p ∧ ∀ x ∈ p, x ∈ vs := fun {s t} hs ht => by
      obtain ⟨p, h, k⟩ := ih hs ht
      exact ⟨p, ⟨h.ch.mono (fun x y z => z.elim (fun z => .inl (List.mem_cons_of_mem _ z)) fun z => .inr (List.mem_cons_of_mem _ z)), h.nd, h.hd, h.lt⟩, k⟩
    have to : ∀ {s : Nat}, s ∈ vs → ∃ p, Path ((a, b) :: L) s b p ∧ ∀ x ∈ p, x ∈ b :: vs := fun {s} hs => by
      obtain ⟨p, h, k⟩ := up hs ha
      refine ⟨p ++ [b], ⟨h.ch.snoc h.lt (.inl List.mem_cons_self), ?_, ?_, by simp⟩, ?_⟩
      · exact List.nodup_append.mpr ⟨h.nd, by simp, fun x hx y hy e => by
          have : y = b := by simpa using hy
          subst this; subst e; exact hb (k _ hx)⟩
      · cases p with
        | nil => exact absurd h.hd (by simp)
        | cons x r => exact h.hd
      · intro x hx
        rcases List.mem_append.mp hx with q | q
        · exact List.mem_cons_of_mem _ (k x q)
        · have : x = b := by simpa using q
          subst this; exact List.mem_cons_self
    intro s t hs ht
    rcases List.mem_cons.mp hs with e | hs
    · subst e
      rcases List.mem_cons.mp ht with e | ht
      · subst e
        exact ⟨[t], ⟨trivial, by simp, rfl, rfl⟩, by simp⟩
      · obtain ⟨p, h, k⟩ := to ht
        exact ⟨p.reverse, h.reverse, fun x hx => k x (List.mem_reverse.mp hx)⟩
    · rcases List.mem_cons.mp ht with e | ht
      · rw [e]; exact to hs
      · obtain ⟨p, h, k⟩ := up hs ht
        exact ⟨p, h, fun x hx => List.mem_cons_of_mem _ (k x hx)⟩
end TM
set_option linter.all false
/-! neighbours, what a search tells, what lies behind. Plain Lean. -/
namespace TM
/-! ### neighbours -/
def out (L : Lanes) (i : Nat) : List Nat := (L.filter fun p => decide (p.1 = i)).map (·.2)
def inn (L : Lanes) (i : Nat) : List Nat := (L.filter fun p => decide (p.2 = i)).map (·.1)
def nb (L : Lanes) (i : Nat) : List Nat := out L i ++ inn L i
def nbP : Lanes → Nat → List Nat
  | [], _ => []
  | (a, b) :: L, i => (if a = i then [b] else []) ++ ((if b = i then [a] else []) ++ nbP L i)
theorem mem_out {L : Lanes} {i x : Nat} : x ∈ out L i ↔ (i, x) ∈ L := by
  unfold out
  simp only [List.mem_map, List.mem_filter, decide_eq_true_eq]
  constructor
  · rintro ⟨⟨a, b⟩, ⟨h, e⟩, q⟩
    simp only at e q
    subst e; subst q; exact h
  · intro h
    exact ⟨(i, x), ⟨h, rfl⟩, rfl⟩
theorem mem_inn {L : Lanes} {i x : Nat} : x ∈ inn L i ↔ (x, i) ∈ L := by
  unfold inn
  simp only [List.mem_map, List.mem_filter, decide_eq_true_eq]
  constructor
  · rintro ⟨⟨a, b⟩, ⟨h, e⟩, q⟩
    simp only at e q
    subst e; subst q; exact h
  · intro h
    exact ⟨(x, i), ⟨h, rfl⟩, rfl⟩
theorem mem_nb {L : Lanes} {i x : Nat} : x ∈ nb L i ↔ Adj L i x := by
  unfold nb Adj
  rw [List.mem_append, mem_out, mem_inn]
theorem nbP_perm : ∀ (L : Lanes) (i : Nat), (nbP L i).Perm (nb L i)
  | [], _ => List.Perm.nil
  | (a, b) :: L, i => by
    have ih := nbP_perm L i
    unfold nbP nb out inn
    simp only [List.filter_cons]
    unfold nb out inn at ih
    by_cases h1 : a = i <;> by_cases h2 : b = i <;> simp only [h1, h2, decide_true, decide_false, if_true, if_false, List.map_cons, List.nil_append, List.cons_append, Bool.false_eq_true]
    · refine List.Perm.cons _ ?_
      exact (List.Perm.cons _ ih).trans List.perm_middle.symm
    · exact List.Perm.cons _ ih
    · exact (List.Perm.cons _ ih).trans List.perm_middle.symm
    · exact ih
theorem nbP_snoc : ∀ (L : Lanes) (a b i : Nat), nbP (L ++ [(a, b)]) i = nbP L i ++ ((if a = i then [b] else []) ++ (if b = i then [a] else []))
  | [], a, b, i => by simp [nbP]
  | (c, d) :: L, a, b, i => by
    show _ ++ (_ ++ nbP (L ++ [(a, b)]) i) = (_ ++ (_ ++ nbP L i)) ++ _
    rw [nbP_snoc L a b i]
    simp only [List.append_assoc]
theorem Grow.nb_nodup {vs : List Nat} {L : Lanes} (g : Grow vs L) : ∀ i, (nb L i).Nodup := by
  induction g with
  | one v => intro i; simp [nb, out, inn]
  | @step vs L a b g ha hb ih =>
    intro i
    refine (nbP_perm ((a, b) :: L) i).nodup_iff.mp ?_
    have ih' := (nbP_perm L i).nodup_iff.mpr (ih i)
    have nab : a ≠ b := fun e => hb (e ▸ ha)
    unfold nbP
    by_cases h1 : a = i
    · have h2 : ¬ b = i := fun e => nab (h1.trans e.symm)
      rw [if_pos h1, if_neg h2]
      refine List.nodup_cons.mpr ⟨fun h => ?_, ih'⟩
      exact hb (g.ends (mem_nb.mp ((nbP_perm L i).mem_iff.mp h))).2
    · by_cases h2 : b = i
      · rw [if_neg h1, if_pos h2]
        refine List.nodup_cons.mpr ⟨fun h => ?_, ih'⟩
        subst h2
        exact hb (g.ends (mem_nb.mp ((nbP_perm L b).mem_iff.mp h))).1
      · rw [if_neg h1, if_neg h2]
        exact ih'
/-- what is used of a tree -/
structure Tr (vs : List Nat) (L : Lanes) : Prop where
  ends : ∀ {a b : Nat}, Adj L a b → a ∈ vs ∧ b ∈ vs
  irrefl : ∀ {a : Nat}, ¬ Adj L a a
  unique : ∀ {s t : Nat} {p q : List Nat}, Path L s t p → Path L s t q → p = q
  conn : ∀ {s t : Nat}, s ∈ vs → t ∈ vs → ∃ p, Path L s t p ∧ ∀ x ∈ p, x ∈ vs
  nbnd : ∀ i, (nb L i).Nodup
  length : vs.length = L.length + 1
  nodup : vs.Nodup
theorem nb_adj {L L0 : Lanes} (h : ∀ i, (nb L i).Perm (nb L0 i)) {a b : Nat} : Adj L a b ↔ Adj L0 a b := by
  rw [← mem_nb, ← mem_nb, (h a).mem_iff]
theorem Path.to {L L0 : Lanes} (h : ∀ {a b : Nat}, Adj L a b → Adj L0 a b) {s t : Nat} {p : List Nat} (P : Path L s t p) : Path L0 s t p := ⟨P.ch.mono fun _ _ z => h z, P.nd, P.hd, P.lt⟩
theorem Grow.tr {vs : List Nat} {L L0 : Lanes} (g : Grow vs L0) (h : ∀ i, (nb L i).Perm (nb L0 i)) (hl : L.length = L0.length) : Tr vs L where
  ends := fun a => g.ends ((nb_adj h).mp a)
  irrefl := fun a => g.irrefl ((nb_adj h).mp a)
  unique := fun P Q => g.unique (P.to (nb_adj h).mp) (Q.to (nb_adj h).mp)
  conn := fun hs ht => by
    obtain ⟨p, P, k⟩ := g.conn hs ht
    exact ⟨p, P.to (nb_adj h).mpr, k⟩
  nbnd := fun i => (h i).nodup_iff.mpr (g.nb_nodup i)
  length := by rw [hl, g.length]
  nodup := g.nodup
theorem two_nb {L : Lanes} {x y z : Nat} (h1 : Adj L x y) (h2 : Adj L x z) (n : y ≠ z) : 1 < (nb L x).length := by
  have m1 := mem_nb.mpr h1
  have m2 := mem_nb.mpr h2
  cases e : nb L x with
  | nil => rw [e] at m1; cases m1
  | cons a r =>
    cases r with
    | nil =>
      rw [e] at m1 m2
      exact absurd ((List.mem_singleton.mp m1).trans (List.mem_singleton.mp m2).symm) n
    | cons b r => simp
/-! ### sorted -/
def ins (x : Nat) : List Nat → List Nat
  | [] => [x]
  | y :: r => if x ≤ y then x :: y :: r else y :: ins x r
def isort : List Nat → List Nat
  | [] => []
  | x :: r => ins x (isort r)
theorem ins_perm (x : Nat) : ∀ l, (ins x l).Perm (x :: l)
  | [] => List.Perm.refl _
  | y :: r => by
    unfold ins
    by_cases h : x ≤ y
    · rw [if_pos h]
    · rw [if_neg h]
      exact ((ins_perm x r).cons y).trans (List.Perm.swap x y r)
theorem isort_perm : ∀ l, (isort l).Perm l
  | [] => List.Perm.nil
  | x :: r => (ins_perm x _).trans ((isort_perm r).cons x)
theorem ins_sorted (x : Nat) : ∀ {l : List Nat}, l.Pairwise (· ≤ ·) → (ins x l).Pairwise (· ≤ ·)
  | [], _ => by simp [ins]
  | y :: r, h => by
    unfold ins
    obtain ⟨h1, h2⟩ := List.pairwise_cons.mp h
    by_cases q : x ≤ y
    · rw [if_pos q]
      refine List.pairwise_cons.mpr ⟨fun z hz => ?_, h⟩
      rcases List.mem_cons.mp hz with e | hz
      · subst e; exact q
      · exact Nat.le_trans q (h1 z hz)
    · rw [if_neg q]
      refine List.pairwise_cons.mpr ⟨fun z hz => ?_, ins_sorted x h2⟩
      rcases List.mem_cons.mp ((ins_perm x r).mem_iff.mp hz) with e | hz
      · subst e; omega
      · exact h1 z hz
theorem isort_sorted : ∀ l, (isort l).Pairwise (· ≤ ·)
  | [] => by simp [isort]
  | x :: r => ins_sorted x (isort_sorted r)
theorem sorted_unique : ∀ {l m : List Nat}, l.Perm m → l.Pairwise (· ≤ ·) → m.Pairwise (· ≤ ·) → l = m
  | [], m, p, _, _ => by
    have := p.length_eq
    cases m with
    | nil => rfl
    | cons a r => simp at this
  | a :: l, [], p, _, _ => by have := p.length_eq; simp at this
  | a :: l, b :: m, p, h1, h2 => by
    obtain ⟨a1, a2⟩ := List.pairwise_cons.mp h1
    obtain ⟨b1, b2⟩ := List.pairwise_cons.mp h2
    have e : a = b := by
      have ma : a ∈ b :: m := p.mem_iff.mp List.mem_cons_self
      have mb : b ∈ a :: l := p.mem_iff.mpr List.mem_cons_self
      rcases List.mem_cons.mp ma with e | ma
      · exact e
      · rcases List.mem_cons.mp mb with e | mb
        · exact e.symm
        · have q1 := b1 a ma
          have q2 := a1 b mb
          omega
    subst e
    rw [sorted_unique (List.Perm.cons_inv p) a2 b2]
theorem isort_eq {l m : List Nat} (p : m.Perm l) (h : m.Pairwise (· ≤ ·)) : m = isort l := sorted_unique (p.trans (isort_perm l).symm) h (isort_sorted l)
theorem isort_congr {l m : List Nat} (p : l.Perm m) : isort l = isort m := isort_eq ((isort_perm l).trans p) (isort_sorted l)
theorem isort_of_sorted {l : List Nat} (h : l.Pairwise (· ≤ ·)) : isort l = l := (isort_eq (List.Perm.refl l) h).symm
theorem isort_length (l : List Nat) : (isort l).length = l.length := (isort_perm l).length_eq
/-- an int list that Python sorted -/
theorem int_sorted {l : List Nat} {m : List Int} (p : m.Perm (l.map fun (n : Nat) => (n : Int))) (h : m.Pairwise (· ≤ ·)) : m = (isort l).map fun (n : Nat) => (n : Int) := by
  have g : ∃ k : List Nat, m = k.map fun (n : Nat) => (n : Int) := by
    have nn : ∀ z ∈ m, 0 ≤ z := fun z hz => by
      obtain ⟨n, _, e⟩ := List.mem_map.mp (p.mem_iff.mp hz)
      subst e; exact Int.natCast_nonneg _
    clear p h
    induction m with
    | nil => exact ⟨[], rfl⟩
    | cons z r ih =>
      obtain ⟨k, e⟩ := ih fun y hy => nn y (List.mem_cons_of_mem _ hy)
      refine ⟨z.toNat :: k, ?_⟩
      rw [List.map_cons, ← e]
      have := nn z List.mem_cons_self
      congr 1
      omega
  obtain ⟨k, rfl⟩ := g
  have pk : k.Perm l := by
    have := p.map Int.toNat
    rw [List.map_map, List.map_map] at this
    have f : (Int.toNat ∘ fun (n : Nat) => (n : Int)) = id := by funext n; simp
    rw [f, List.map_id, List.map_id] at this
    exact this
  have hk : k.Pairwise (· ≤ ·) := by
    rw [List.pairwise_map] at h
    exact h.imp fun q => by omega
  rw [isort_eq pk hk]
def adj (L : Lanes) (i : Nat) : List Nat := isort (nb L i)
theorem mem_adj {L : Lanes} {i x : Nat} : x ∈ adj L i ↔ Adj L i x := by
  unfold adj
  rw [(isort_perm _).mem_iff, mem_nb]
theorem adjP (L : Lanes) (i : Nat) : isort (nbP L i) = adj L i := isort_congr (nbP_perm L i)
theorem adj_length (L : Lanes) (i : Nat) : (adj L i).length = (nb L i).length := isort_length _
theorem Tr.adj_nodup {vs : List Nat} {L : Lanes} (g : Tr vs L) (i : Nat) : (adj L i).Nodup := (isort_perm _).nodup_iff.mpr (g.nbnd i)
/-! ### what a search tells -/
structure Told (L : Lanes) (goal : Nat) (kvs : List (Nat × Nat)) : Prop where
  nd : (kvs.map (·.1)).Nodup
  ord : ∀ (i k h : Nat), kvs[i]? = some (k, h) → Adj L h k ∧ k ≠ goal ∧ (h = goal ∨ ∃ j, j < i ∧ ∃ h', kvs[j]? = some (h, h'))
structure Ahead (L : Lanes) (goal : Nat) (kvs : List (Nat × Nat)) : Prop extends toTold : Told L goal kvs where
  closed : ∀ (x y : Nat), (x = goal ∨ x ∈ kvs.map (·.1)) → Adj L x y → y = goal ∨ y ∈ kvs.map (·.1)
theorem nodup_ix {α : Type} {l : List α} (nd : l.Nodup) {i j : Nat} {x : α} (a : l[i]? = some x) (b : l[j]? = some x) : i = j := by
  obtain ⟨h1, e1⟩ := List.getElem?_eq_some_iff.mp a
  obtain ⟨h2, e2⟩ := List.getElem?_eq_some_iff.mp b
  exact (List.getElem_inj nd).mp (e1.trans e2.symm)
theorem Told.key_ix {L : Lanes} {goal : Nat} {kvs : List (Nat × Nat)} (T : Told L goal kvs) {i j k h h' : Nat} (a : kvs[i]? = some (k, h)) (b : kvs[j]? = some (k, h')) : i = j := by
  refine nodup_ix T.nd (x := k) ?_ ?_
  · rw [List.getElem?_map, a]; rfl
  · rw [List.getElem?_map, b]; rfl
theorem Told.path {L : Lanes} {goal : Nat} {kvs : List (Nat × Nat)} (T : Told L goal kvs) : ∀ (i k h : Nat), kvs[i]? = some (k, h) →
    ∃ r, Path L k goal (k :: h :: r) ∧ ∀ x ∈ k :: h :: r, x = goal ∨ ∃ j, j ≤ i ∧ ∃ h', kvs[j]? = some (x, h') := by
  intro i
  induction i using Nat.strongRecOn with
  | _ i ih =>
    intro k h e
    obtain ⟨a, ng, o⟩ := T.ord i k h e
    rcases o with o | ⟨j, hj, h', e'⟩
    · subst o
      refine ⟨[], ⟨⟨a.symm, trivial⟩, by simp [ng], rfl, rfl⟩, fun x hx => ?_⟩
      rcases List.mem_cons.mp hx with q | hx
      · subst q; exact .inr ⟨i, Nat.le_refl _, h, e⟩
      · exact .inl (List.mem_singleton.mp hx)
    · obtain ⟨r, P, K⟩ := ih j hj h h' e'
      refine ⟨h' :: r, ⟨⟨a.symm, P.ch⟩, List.nodup_cons.mpr ⟨fun hm => ?_, P.nd⟩, rfl, ?_⟩, fun x hx => ?_⟩
      · rcases K k hm with q | ⟨j', hj', h'', q⟩
        · exact ng q
        · have := T.key_ix e q
          omega
      · rw [List.getLast?_cons_cons]; exact P.lt
      · rcases List.mem_cons.mp hx with q | hx
        · subst q; exact .inr ⟨i, Nat.le_refl _, h, e⟩
        · rcases K x hx with q | ⟨j', hj', q⟩
          · exact .inl q
          · exact .inr ⟨j', by omega, q⟩
theorem Ahead.all {vs : List Nat} {L : Lanes} {goal : Nat} {kvs : List (Nat × Nat)} (g : Tr vs L) (A : Ahead L goal kvs) (hg : goal ∈ vs) {x : Nat} (hx : x ∈ vs) : x = goal ∨ x ∈ kvs.map (·.1) := by
  obtain ⟨p, P, _⟩ := g.conn hg hx
  have f : ∀ (p : List Nat) (s t : Nat), Chain L p → p.head? = some s → p.getLast? = some t → (s = goal ∨ s ∈ kvs.map (·.1)) → t = goal ∨ t ∈ kvs.map (·.1) := by
    intro p
    induction p with
    | nil => intro s t _ h; cases h
    | cons a r ih =>
      intro s t c h l k
      have e : a = s := Option.some.inj h
      subst e
      cases r with
      | nil =>
        have e : a = t := Option.some.inj l
        subst e; exact k
      | cons b r =>
        rw [List.getLast?_cons_cons] at l
        exact ih b t c.2 rfl l (A.closed _ _ k c.1)
  exact f p goal x P.ch P.hd P.lt (.inl rfl)
/-- what is told of a place: the next one on its way -/
def look (kvs : List (Nat × Nat)) (k : Nat) : Option Nat := (kvs.find? fun p => decide (p.1 = k)).map (·.2)
theorem look_ix {kvs : List (Nat × Nat)} {k h : Nat} (e : look kvs k = some h) : ∃ i : Nat, kvs[i]? = some (k, h) := by
  unfold look at e
  cases q : kvs.find? fun p => decide (p.1 = k) with
  | none => rw [q] at e; cases e
  | some p =>
    rw [q] at e
    have e : p.2 = h := Option.some.inj e
    have m := List.mem_of_find?_eq_some q
    have z := List.find?_some q
    obtain ⟨i, hi⟩ := List.getElem?_of_mem m
    obtain ⟨a, b⟩ := p
    have z : a = k := by simpa using z
    subst z; subst e
    exact ⟨i, hi⟩
theorem look_some {kvs : List (Nat × Nat)} {k : Nat} (h : k ∈ kvs.map (·.1)) : ∃ v, look kvs k = some v := by
  unfold look
  cases q : kvs.find? fun p => decide (p.1 = k) with
  | some p => exact ⟨p.2, rfl⟩
  | none =>
    obtain ⟨p, hp, e⟩ := List.mem_map.mp h
    have := List.find?_eq_none.mp q p hp
    simp [e] at this
theorem Ahead.next {vs : List Nat} {L : Lanes} {goal : Nat} {kvs : List (Nat × Nat)} (g : Tr vs L) (A : Ahead L goal kvs) (hg : goal ∈ vs) {x : Nat} (hx : x ∈ vs) (n : x ≠ goal) : ∃ h r, look kvs x = some h ∧ Path L x goal (x :: h :: r) := by
  rcases A.all g hg hx with e | m
  · exact absurd e n
  · obtain ⟨h, e⟩ := look_some m
    obtain ⟨i, hi⟩ := look_ix e
    obtain ⟨r, P, _⟩ := A.toTold.path i x h hi
    exact ⟨h, r, e, P⟩
/-! ### next places -/
/-- N g p: the place behind p on the way to g -/
def IsNext (vs : List Nat) (L : Lanes) (N : Nat → Nat → Nat) : Prop := ∀ g p, g ∈ vs → p ∈ vs → p ≠ g → ∃ r, Path L p g (p :: N g p :: r)
section
variable {vs : List Nat} {L : Lanes} {N : Nat → Nat → Nat}
theorem next_of (G : Tr vs L) (I : IsNext vs L N) {p g h : Nat} {r : List Nat} (P : Path L p g (p :: h :: r)) : N g p = h := by
  have hp := (G.ends P.ch.1).1
  have n : p ≠ g := fun e => by
    have l := P.lt
    rw [List.getLast?_cons_cons] at l
    rw [← e] at l
    exact (List.nodup_cons.mp P.nd).1 (List.mem_of_getLast? l)
  have hg : g ∈ vs := by
    have f : ∀ (r : List Nat) (x h : Nat), Chain L (x :: h :: r) → (h :: r).getLast? = some g → g ∈ vs := by
      intro r
      induction r with
      | nil => intro x h c l; have e : h = g := Option.some.inj l; exact e ▸ (G.ends c.1).2
      | cons y r ih => intro x h c l; exact ih h y c.2 (by rw [List.getLast?_cons_cons] at l; exact l)
    have l := P.lt
    rw [List.getLast?_cons_cons] at l
    exact f r p h P.ch l
  obtain ⟨r', P'⟩ := I g p hg hp n
  have := G.unique P P'
  injection this with _ e
  injection e with e _
  exact e.symm
/-- a neighbour on the way is the next place -/
theorem on_way (G : Tr vs L) {y o h t : Nat} {r : List Nat} (P : Path L y o (y :: h :: r)) (a : Adj L y t) (m : t ∈ h :: r) : t = h := by
  obtain ⟨A, B, e⟩ := List.append_of_mem m
  have c : Chain L (t :: B) := by
    have := P.ch.tail
    rw [e] at this
    exact this.right
  have nd := List.nodup_cons.mp P.nd
  have P' : Path L y o (y :: t :: B) := by
    refine ⟨⟨a, c⟩, List.nodup_cons.mpr ⟨fun hm => nd.1 ?_, ?_⟩, rfl, ?_⟩
    · rw [e]; exact List.mem_append_right _ hm
    · have := nd.2
      rw [e] at this
      exact (List.nodup_append.mp this).2.1
    · have l := P.lt
      rw [List.getLast?_cons_cons, e] at l
      rw [List.getLast?_cons_cons]
      rw [List.getLast?_append] at l
      cases q : (t :: B).getLast? with
      | none => simp at q
      | some z => rw [q] at l; exact l
  have := G.unique P P'
  injection this with _ q
  injection q with q _
  exact q.symm
/-- is u behind y, seen from t? -/
def beh (N : Nat → Nat → Nat) (y t u : Nat) : Bool := decide (u = y) || !decide (N u y = t)
/-- own ways tell the same -/
theorem beh_way (G : Tr vs L) (I : IsNext vs L N) {y t u : Nat} {W : List Nat} (hy : y ∈ vs) (hu : u ∈ vs) (a : Adj L y t) (P : Path L u y W) : beh N y t u = !decide (t ∈ W) := by
  have nty : t ≠ y := fun e => G.irrefl (e ▸ a)
  unfold beh
  by_cases e : u = y
  · subst e
    have : W = [u] := path_one P
    subst this
    simp [nty]
  · obtain ⟨r, Q⟩ := I u y hu hy (fun z => e z.symm)
    have : W = (y :: N u y :: r).reverse := by
      have := G.unique P.reverse Q
      rw [← this, List.reverse_reverse]
    rw [this]
    simp only [e, decide_false, Bool.false_or, List.mem_reverse]
    by_cases q : N u y = t
    · simp [q]
    · have : t ∉ y :: N u y :: r := fun m => by
        rcases List.mem_cons.mp m with z | m
        · exact nty z
        · exact q (on_way G Q a m).symm
      simp [q, this]
theorem next_nb (G : Tr vs L) (I : IsNext vs L N) {x y : Nat} (a : Adj L x y) : N y x = y := by
  have n : x ≠ y := fun e => G.irrefl (e ▸ a)
  exact next_of G I (r := []) ⟨⟨a, trivial⟩, by simp [n], rfl, rfl⟩
/-- each u lies behind just one of both -/
theorem beh_other (G : Tr vs L) (I : IsNext vs L N) {y t u : Nat} (hu : u ∈ vs) (a : Adj L y t) : beh N t y u = !beh N y t u := by
  have n : y ≠ t := fun e => G.irrefl (e ▸ a)
  unfold beh
  by_cases e1 : u = y
  · subst e1
    have : ¬ u = t := n
    simp [this, next_nb G I a.symm]
  · by_cases e2 : u = t
    · subst e2
      simp [e1, next_nb G I a]
    · have hy := (G.ends a).1
      have ht := (G.ends a).2
      obtain ⟨r, P⟩ := I u y hu hy (fun z => e1 z.symm)
      simp only [e1, e2, decide_false, Bool.false_or]
      by_cases q : N u y = t
      · -- t behind y
        rw [q] at P
        cases r with
        | nil =>
          have := P.lt
          exact absurd (Option.some.inj this).symm e2
        | cons z r =>
          have nd := List.nodup_cons.mp P.nd
          have Pt : Path L t u (t :: z :: r) := ⟨P.ch.2, nd.2, rfl, by have := P.lt; rwa [List.getLast?_cons_cons] at this⟩
          have := next_of G I Pt
          have nz : ¬ N u t = y := by
            rw [this]
            intro ez
            exact nd.1 (ez ▸ List.mem_cons_of_mem _ List.mem_cons_self)
          simp [q, nz]
      · have nt : t ∉ y :: N u y :: r := fun m => by
          rcases List.mem_cons.mp m with z | m
          · exact n z.symm
          · exact q (on_way G P a m).symm
        have Pt : Path L t u (t :: y :: N u y :: r) := ⟨⟨a.symm, P.ch⟩, List.nodup_cons.mpr ⟨nt, P.nd⟩, rfl, by rw [List.getLast?_cons_cons]; exact P.lt⟩
        have := next_of G I Pt
        simp [q, this]
/-- behind y seen from t, but y: behind the one neighbour ahead -/
theorem beh_nb (G : Tr vs L) (I : IsNext vs L N) {y o u : Nat} (hu : u ∈ vs) (a : Adj L y o) : beh N o y u = true ↔ u ≠ y ∧ N u y = o := by
  rw [beh_other G I hu a]
  unfold beh
  by_cases e : u = y <;> simp [e]
/-- the next place is a yard, if the end is one -/
theorem next_yard (G : Tr vs L) (I : IsNext vs L N) {y u : Nat} (hu : u ∈ vs) (hy : y ∈ vs) (n : u ≠ y) (yu : 1 < (nb L u).length) : Adj L y (N u y) ∧ 1 < (nb L (N u y)).length := by
  obtain ⟨r, P⟩ := I u y hu hy (fun z => n z.symm)
  refine ⟨P.ch.1, ?_⟩
  cases r with
  | nil =>
    have e : N u y = u := Option.some.inj P.lt
    rw [e]; exact yu
  | cons z r =>
    refine two_nb (y := y) (z := z) P.ch.1.symm P.ch.2.1 fun e => ?_
    exact (List.nodup_cons.mp P.nd).1 (e ▸ List.mem_cons_of_mem _ List.mem_cons_self)
end
end TM
set_option linter.all false
/-! searches: deep (the program's) and broad (the law's), by what holds between two turns. Plain Lean. -/
namespace TM
theorem nodup_len : ∀ {l m : List Nat}, l.Nodup → (∀ x ∈ l, x ∈ m) → l.length ≤ m.length
  | [], _, _, _ => Nat.zero_le _
  | a :: l, m, nd, h => by
    obtain ⟨n1, n2⟩ := List.nodup_cons.mp nd
    have ha := h a List.mem_cons_self
    have := nodup_len (l := l) (m := m.erase a) n2 fun x hx => (List.mem_erase_of_ne (fun (e : x = a) => n1 (by rw [← e]; exact hx))).mpr (h x (List.mem_cons_of_mem _ hx))
    rw [List.length_erase_of_mem ha] at this
    have := List.length_pos_of_mem ha
    simp
    omega
def keys (kvs : List (Nat × Nat)) : List Nat := kvs.map (·.1)
def Known (goal : Nat) (kvs : List (Nat × Nat)) (x : Nat) : Prop := x = goal ∨ x ∈ keys kvs
theorem Known.more {goal : Nat} {kvs : List (Nat × Nat)} {x : Nat} {q : Nat × Nat} (h : Known goal kvs x) : Known goal (kvs ++ [q]) x := h.elim .inl fun h => .inr (by
  unfold keys at *
  rw [List.map_append]
  exact List.mem_append_left _ h)
theorem known_new {goal : Nat} {kvs : List (Nat × Nat)} {y h : Nat} : Known goal (kvs ++ [(y, h)]) y := .inr (by simp [keys])
structure DOut (L : Lanes) (goal : Nat) (kvs : List (Nat × Nat)) (wt : List Nat) : Prop where
  told : Told L goal kvs
  sub : ∀ x ∈ wt, Known goal kvs x
  closed : ∀ x y, Known goal kvs x → x ∉ wt → Adj L x y → Known goal kvs y
structure DIn (L : Lanes) (goal here : Nat) (i : Nat) (kvs : List (Nat × Nat)) (wt : List Nat) : Prop where
  told : Told L goal kvs
  sub : ∀ x ∈ wt, Known goal kvs x
  me : Known goal kvs here
  closed : ∀ x y, Known goal kvs x → x ∉ wt → x ≠ here → Adj L x y → Known goal kvs y
  part : ∀ y ∈ (adj L here).take i, Known goal kvs y
theorem DOut.start (L : Lanes) (goal : Nat) : DOut L goal [] [goal] := by
  refine ⟨⟨List.nodup_nil, fun i k h e => by simp at e⟩, fun x hx => .inl (List.mem_singleton.mp hx), fun x y k n _ => ?_⟩
  rcases k with k | k
  · exact absurd (List.mem_singleton.mpr k) n
  · cases k
theorem DOut.pop {L : Lanes} {goal here : Nat} {kvs : List (Nat × Nat)} {wt : List Nat} (h : DOut L goal kvs (wt ++ [here])) : DIn L goal here 0 kvs wt := by
  refine ⟨h.told, fun x hx => h.sub x (List.mem_append_left _ hx), h.sub here (by simp), fun x y k n ne a => h.closed x y k (fun m => ?_) a, fun y hy => by simp at hy⟩
  rcases List.mem_append.mp m with m | m
  · exact n m
  · exact ne (List.mem_singleton.mp m)
theorem DIn.done {L : Lanes} {goal here : Nat} {kvs : List (Nat × Nat)} {wt : List Nat} (h : DIn L goal here (adj L here).length kvs wt) : DOut L goal kvs wt := by
  refine ⟨h.told, h.sub, fun x y k n a => ?_⟩
  by_cases e : x = here
  · subst e
    refine h.part y ?_
    rw [List.take_length]
    exact mem_adj.mpr a
  · exact h.closed x y k n e a
theorem DIn.skip {L : Lanes} {goal here i y : Nat} {kvs : List (Nat × Nat)} {wt : List Nat} (h : DIn L goal here i kvs wt) (hy : (adj L here)[i]? = some y) (k : Known goal kvs y) : DIn L goal here (i + 1) kvs wt := by
  refine ⟨h.told, h.sub, h.me, h.closed, fun z hz => ?_⟩
  rw [List.take_add_one, hy] at hz
  rcases List.mem_append.mp hz with hz | hz
  · exact h.part z hz
  · have : z = y := by simpa using hz
    subst this
    exact k
theorem Told.more {L : Lanes} {goal here y : Nat} {kvs : List (Nat × Nat)} (h : Told L goal kvs) (me : Known goal kvs here) (a : Adj L here y) (n : ¬ Known goal kvs y) : Told L goal (kvs ++ [(y, here)]) := by
  have n1 : y ≠ goal := fun e => n (.inl e)
  have n2 : y ∉ keys kvs := fun e => n (.inr e)
  refine ⟨?_, fun i k hh e => ?_⟩
  · rw [List.map_append]
    exact List.nodup_append.mpr ⟨h.nd, by simp, fun x hx z hz e => by
      have : z = y := by simpa using hz
      subst this
      subst e
      exact n2 hx⟩
  · by_cases hi : i < kvs.length
    · rw [List.getElem?_append_left hi] at e
      obtain ⟨b1, b2, b3⟩ := h.ord i k hh e
      refine ⟨b1, b2, b3.elim .inl fun ⟨j, hj, h', e'⟩ => .inr ⟨j, hj, h', ?_⟩⟩
      rw [List.getElem?_append_left (by omega)]
      exact e'
    · rw [List.getElem?_append_right (by omega)] at e
      have e0 : i - kvs.length = 0 := by
        have := (List.getElem?_eq_some_iff.mp e).1
        simp at this
        omega
      rw [e0] at e
      have e : (y, here) = (k, hh) := Option.some.inj e
      cases e
      refine ⟨a, n1, me.elim .inl fun m => .inr ?_⟩
      obtain ⟨p, hp, e2⟩ := List.mem_map.mp m
      obtain ⟨j, hj⟩ := List.getElem?_of_mem hp
      have hj2 := (List.getElem?_eq_some_iff.mp hj).1
      obtain ⟨p1, p2⟩ := p
      simp only at e2
      subst e2
      exact ⟨j, by omega, p2, by rw [List.getElem?_append_left hj2]; exact hj⟩
theorem DIn.add {L : Lanes} {goal here i y : Nat} {kvs : List (Nat × Nat)} {wt : List Nat} (h : DIn L goal here i kvs wt) (hy : (adj L here)[i]? = some y) (n : ¬ Known goal kvs y) : DIn L goal here (i + 1) (kvs ++ [(y, here)]) (wt ++ [y]) := by
  have a : Adj L here y := mem_adj.mp (List.mem_of_getElem? hy)
  refine ⟨h.told.more h.me a n, fun x hx => ?_, h.me.more, fun x z k nx ne az => ?_, fun z hz => ?_⟩
  · rcases List.mem_append.mp hx with hx | hx
    · exact (h.sub x hx).more
    · have : x = y := by simpa using hx
      subst this
      exact known_new
  · have nxy : x ≠ y := fun e => nx (by rw [e]; simp)
    have kx : Known goal kvs x := k.elim .inl fun k => .inr (by
      unfold keys at *
      rw [List.map_append] at k
      rcases List.mem_append.mp k with k | k
      · exact k
      · exact absurd (by simpa using k) nxy)
    exact (h.closed x z kx (fun m => nx (List.mem_append_left _ m)) ne az).more
  · rw [List.take_add_one, hy] at hz
    rcases List.mem_append.mp hz with hz | hz
    · exact (h.part z hz).more
    · have : z = y := by simpa using hz
      subst this
      exact known_new
/-- there is room for one more -/
theorem DIn.room {vs : List Nat} {L : Lanes} (g : Tr vs L) {goal here i y : Nat} {kvs : List (Nat × Nat)} {wt : List Nat} (h : DIn L goal here i kvs wt) (hg : goal ∈ vs) (hy : y ∈ vs) (n : ¬ Known goal kvs y) : kvs.length + 1 < vs.length := by
  have nd : (goal :: y :: keys kvs).Nodup := by
    refine List.nodup_cons.mpr ⟨fun m => ?_, List.nodup_cons.mpr ⟨fun m => n (.inr m), h.told.nd⟩⟩
    rcases List.mem_cons.mp m with e | m
    · exact n (.inl e.symm)
    · obtain ⟨p, hp, e⟩ := List.mem_map.mp m
      obtain ⟨j, hj⟩ := List.getElem?_of_mem hp
      exact (h.told.ord j p.1 p.2 hj).2.1 e
  have := nodup_len nd (m := vs) fun x hx => by
    rcases List.mem_cons.mp hx with e | hx
    · exact e ▸ hg
    · rcases List.mem_cons.mp hx with e | hx
      · exact e ▸ hy
      · obtain ⟨p, hp, e⟩ := List.mem_map.mp hx
        obtain ⟨j, hj⟩ := List.getElem?_of_mem hp
        exact e ▸ (g.ends (h.told.ord j p.1 p.2 hj).1).2
  simp [keys] at this
  omega
theorem DOut.ahead {L : Lanes} {goal : Nat} {kvs : List (Nat × Nat)} (h : DOut L goal kvs []) : Ahead L goal kvs := ⟨h.told, fun x y k a => h.closed x y k (by simp) a⟩

/-! ### the law's search: rows are simple paths -/
structure Br (vs : List Nat) (L : Lanes) (s e : Nat) (rows : List (List Nat)) (at_ : Nat) : Prop where
  le : at_ ≤ rows.length
  one : rows[0]? = some [s]
  paths : ∀ r ∈ rows, ∃ t, t ∈ vs ∧ Path L s t r
  nd : rows.Nodup
  par : ∀ (j : Nat) (r : List Nat), rows[j]? = some r → j ≠ 0 → ∃ (i : Nat) (r0 : List Nat) (z : Nat), i < at_ ∧ rows[i]? = some r0 ∧ r = r0 ++ [z]
  full : ∀ (i : Nat) (r : List Nat) (t z : Nat), i < at_ → rows[i]? = some r → r.getLast? = some t → Adj L t z → z ∉ r → r ++ [z] ∈ rows
  not_ : ∀ (i : Nat) (r : List Nat), i < at_ → rows[i]? = some r → r.getLast? ≠ some e
theorem Br.start {vs : List Nat} {L : Lanes} {s e : Nat} (hs : s ∈ vs) : Br vs L s e [[s]] 0 := by
  refine ⟨Nat.zero_le _, rfl, fun r hr => ⟨s, hs, ?_⟩, by simp, fun j r h n => ?_, fun i r t z h => by omega, fun i r h => by omega⟩
  · rw [List.mem_singleton.mp hr]
    exact ⟨trivial, by simp, rfl, rfl⟩
  · have := (List.getElem?_eq_some_iff.mp h).1
    simp at this
    exact absurd this n
/-- there is always a next row -/
theorem Br.more {vs : List Nat} {L : Lanes} (g : Tr vs L) {s e : Nat} {rows : List (List Nat)} {at_ : Nat} (B : Br vs L s e rows at_) (hs : s ∈ vs) (he : e ∈ vs) : at_ < rows.length := by
  refine Nat.lt_of_not_le fun hle => ?_
  have ha : at_ = rows.length := Nat.le_antisymm B.le hle
  obtain ⟨p, P, _⟩ := g.conn hs he
  -- all beginnings of p are rows
  have f : ∀ (q w : List Nat), p = q ++ w → q ≠ [] → q ∈ rows := by
    intro q
    induction hq : q.length generalizing q with
    | zero => intro w _ n; exact absurd (List.length_eq_zero_iff.mp hq) n
    | succ k ih =>
      intro w e n
      cases k with
      | zero =>
        match q, hq with
        | [x], _ =>
          have := P.hd
          rw [e] at this
          have : x = s := Option.some.inj this
          subst this
          exact List.mem_of_getElem? B.one
      | succ k =>
        have hq0 : q = q.dropLast ++ [q.getLast n] := (List.dropLast_concat_getLast n).symm
        have l0 : q.dropLast.length = k + 1 := by rw [List.length_dropLast, hq]; rfl
        have n0 : q.dropLast ≠ [] := fun z => by rw [z] at l0; cases l0
        have e2 : p = q.dropLast ++ ([q.getLast n] ++ w) := by
          rw [e]
          conv => lhs; rw [hq0]
          rw [List.append_assoc]
        have m0 := ih q.dropLast l0 ([q.getLast n] ++ w) e2 n0
        obtain ⟨i, hi⟩ := List.getElem?_of_mem m0
        have hi2 := (List.getElem?_eq_some_iff.mp hi).1
        have hl : q.dropLast.getLast? = some (q.dropLast.getLast n0) := List.getLast?_eq_some_getLast n0
        rw [hq0]
        refine B.full i _ _ _ (by omega) hi hl ?_ ?_
        · have c := P.ch
          rw [e2] at c
          have c : Chain L (q.dropLast ++ ([q.getLast n] ++ w)) := c
          have key : ∀ (u : List Nat) (t z : Nat) (w : List Nat), Chain L (u ++ (z :: w)) → u.getLast? = some t → Adj L t z := by
            intro u
            induction u with
            | nil => intro t z w _ h; cases h
            | cons a u ih2 =>
              intro t z w c h
              cases u with
              | nil =>
                have : a = t := Option.some.inj h
                subst this
                exact c.1
              | cons b u => exact ih2 t z w c.2 (by rw [List.getLast?_cons_cons] at h; exact h)
          exact key _ _ _ w c hl
        · have nd := P.nd
          rw [e2] at nd
          intro m
          exact (List.nodup_append.mp nd).2.2 _ m _ (by simp) rfl
  have hp : p ∈ rows := f p [] (by simp) (fun z => by have := P.hd; rw [z] at this; cases this)
  obtain ⟨i, hi⟩ := List.getElem?_of_mem hp
  exact B.not_ i p (by rw [ha]; exact (List.getElem?_eq_some_iff.mp hi).1) hi P.lt
/-- at most one row a place -/
theorem Br.len {vs : List Nat} {L : Lanes} (g : Tr vs L) {s e : Nat} {rows : List (List Nat)} {at_ : Nat} (B : Br vs L s e rows at_) : rows.length ≤ vs.length := by
  have f : ∀ (rows : List (List Nat)), (∀ r ∈ rows, ∃ t, t ∈ vs ∧ Path L s t r) → rows.Nodup → ∃ ts : List Nat, ts.length = rows.length ∧ ts.Nodup ∧ (∀ t ∈ ts, t ∈ vs) ∧ ∀ t ∈ ts, ∃ r ∈ rows, Path L s t r := by
    intro rows
    induction rows with
    | nil => intro _ _; exact ⟨[], rfl, List.nodup_nil, by simp, by simp⟩
    | cons r rows ih =>
      intro h nd
      obtain ⟨n1, n2⟩ := List.nodup_cons.mp nd
      obtain ⟨ts, h1, h2, h3, h4⟩ := ih (fun r hr => h r (List.mem_cons_of_mem _ hr)) n2
      obtain ⟨t, ht, P⟩ := h r List.mem_cons_self
      refine ⟨t :: ts, by simp [h1], List.nodup_cons.mpr ⟨fun m => ?_, h2⟩, fun x hx => ?_, fun x hx => ?_⟩
      · obtain ⟨r', hr', P'⟩ := h4 t m
        exact n1 (g.unique P P' ▸ hr')
      · rcases List.mem_cons.mp hx with e | hx
        · exact e ▸ ht
        · exact h3 x hx
      · rcases List.mem_cons.mp hx with e | hx
        · subst e; exact ⟨r, List.mem_cons_self, P⟩
        · obtain ⟨r', hr', P'⟩ := h4 x hx
          exact ⟨r', List.mem_cons_of_mem _ hr', P'⟩
  obtain ⟨ts, h1, h2, h3, _⟩ := f rows B.paths B.nd
  rw [← h1]
  exact nodup_len h2 h3
theorem Br.step {vs : List Nat} {L : Lanes} (g : Tr vs L) {s e t : Nat} {rows : List (List Nat)} {at_ : Nat} {r : List Nat} (B : Br vs L s e rows at_) (hr : rows[at_]? = some r) (ht : r.getLast? = some t) (ne : t ≠ e) :
    Br vs L s e (rows ++ (((adj L t).filter fun z => !decide (z ∈ r)).map fun z => r ++ [z])) (at_ + 1) := by
  have hlt := (List.getElem?_eq_some_iff.mp hr).1
  obtain ⟨t', ht', P⟩ := B.paths r (List.mem_of_getElem? hr)
  have : t' = t := Option.some.inj (P.lt.symm.trans ht)
  subst this
  have hz : ∀ {z}, z ∈ (adj L t').filter (fun z => !decide (z ∈ r)) → Adj L t' z ∧ z ∉ r := fun {z} h => by
    have := List.mem_filter.mp h
    exact ⟨mem_adj.mp this.1, by simpa using this.2⟩
  have newP : ∀ {z}, Adj L t' z → z ∉ r → z ∈ vs ∧ Path L s z (r ++ [z]) := fun {z} a n => by
    refine ⟨(g.ends a).2, P.ch.snoc ht a, List.nodup_append.mpr ⟨P.nd, by simp, fun x hx y hy e => by
      have : y = z := by simpa using hy
      subst this; subst e; exact n hx⟩, ?_, by simp⟩
    cases r with
    | nil => exact absurd P.hd (by simp)
    | cons x r => exact P.hd
  have old : ∀ {z}, Adj L t' z → z ∉ r → r ++ [z] ∉ rows := fun {z} a n m => by
    obtain ⟨j, hj⟩ := List.getElem?_of_mem m
    have j0 : j ≠ 0 := fun e0 => by
      rw [e0, B.one] at hj
      have := Option.some.inj hj
      have l := congrArg List.length this
      simp at l
      have := P.hd
      rw [l] at this
      cases this
    obtain ⟨i, r0, z', hi, hi2, e'⟩ := B.par j _ hj j0
    have e2 : r = r0 := (List.append_inj' e' rfl).1
    have : i = at_ := nodup_ix B.nd hi2 (e2 ▸ hr)
    omega
  refine ⟨?_, ?_, fun q hq => ?_, ?_, fun j q hq j0 => ?_, fun i q t2 z hi hq hl a n => ?_, fun i q hi hq => ?_⟩
  · rw [List.length_append]; omega
  · rw [List.getElem?_append_left (by omega)]; exact B.one
  · rcases List.mem_append.mp hq with hq | hq
    · exact B.paths q hq
    · obtain ⟨z, hz2, e2⟩ := List.mem_map.mp hq
      subst e2
      obtain ⟨a, n⟩ := hz hz2
      exact ⟨z, (newP a n).1, (newP a n).2⟩
  · refine List.nodup_append.mpr ⟨B.nd, ?_, fun x hx y hy e2 => ?_⟩
    · refine List.pairwise_map.mpr ?_
      exact ((g.adj_nodup t').filter _).imp fun h e2 => h (by
        have := (List.append_inj' e2 rfl).2
        simpa using this)
    · obtain ⟨z, hz2, e3⟩ := List.mem_map.mp hy
      subst e2
      subst e3
      obtain ⟨a, n⟩ := hz hz2
      exact old a n hx
  · by_cases hj : j < rows.length
    · rw [List.getElem?_append_left hj] at hq
      obtain ⟨i, r0, z, hi, hi2, e2⟩ := B.par j q hq j0
      exact ⟨i, r0, z, by omega, by rw [List.getElem?_append_left (by omega)]; exact hi2, e2⟩
    · rw [List.getElem?_append_right (by omega)] at hq
      obtain ⟨z, hz2, e2⟩ := List.mem_map.mp (List.mem_of_getElem? hq)
      exact ⟨at_, r, z, by omega, by rw [List.getElem?_append_left hlt]; exact hr, e2.symm⟩
  · rw [List.getElem?_append_left (by omega)] at hq
    by_cases hi2 : i = at_
    · subst hi2
      have : q = r := Option.some.inj (hq.symm.trans hr)
      subst this
      have : t2 = t' := Option.some.inj (hl.symm.trans ht)
      subst this
      exact List.mem_append_right _ (List.mem_map.mpr ⟨z, List.mem_filter.mpr ⟨mem_adj.mpr a, by simp [n]⟩, rfl⟩)
    · exact List.mem_append_left _ (B.full i q t2 z (by omega) hq hl a n)
  · rw [List.getElem?_append_left (by omega)] at hq
    by_cases hi2 : i = at_
    · subst hi2
      have : q = r := Option.some.inj (hq.symm.trans hr)
      subst this
      rw [ht]
      exact fun z => ne (Option.some.inj z)
    · exact B.not_ i q (by omega) hq
end TM
set_option linter.all false
/-! lanes told otherwise, yards and gates. Plain Lean. -/
namespace TM
theorem nb_perm {L M : Lanes} (h : L.Perm M) (i : Nat) : (nb L i).Perm (nb M i) := by
  unfold nb out inn
  exact ((h.filter _).map _).append ((h.filter _).map _)
def norm1 (p : Nat × Nat) : Nat × Nat := (min p.1 p.2, max p.1 p.2)
def norm (L : Lanes) : Lanes := L.map norm1
theorem nbP_norm : ∀ (L : Lanes) (i : Nat), (nbP (norm L) i).Perm (nbP L i)
  | [], _ => List.Perm.refl _
  | (a, b) :: L, i => by
    have ih := nbP_norm L i
    show (nbP (norm1 (a, b) :: norm L) i).Perm _
    by_cases h : a ≤ b
    · have e : norm1 (a, b) = (a, b) := by simp [norm1, Nat.min_eq_left h, Nat.max_eq_right h]
      rw [e]
      unfold nbP
      exact (ih.append_left _).append_left _
    · have h' : b ≤ a := by omega
      have e : norm1 (a, b) = (b, a) := by simp [norm1, Nat.min_eq_right h', Nat.max_eq_left h']
      rw [e]
      unfold nbP
      rw [← List.append_assoc, ← List.append_assoc]
      exact List.Perm.append List.perm_append_comm ih
theorem nb_norm (L : Lanes) (i : Nat) : (nb (norm L) i).Perm (nb L i) := (nbP_perm _ i).symm.trans ((nbP_norm L i).trans (nbP_perm L i))
theorem adj_of {L M : Lanes} (h : ∀ i, (nb L i).Perm (nb M i)) : adj L = adj M := funext fun i => isort_congr (h i)
def yardsL (L : Lanes) : List Nat := (List.range (L.length + 1)).filter fun i => decide (1 < (adj L i).length)
def gatesL (L : Lanes) : List Nat := (List.range (L.length + 1)).filter fun i => decide ((adj L i).length = 1)
/-- lanes of a country -/
structure Good (vs : List Nat) (L : Lanes) : Prop where
  tr : Tr vs L
  vs_ : ∀ v, v ∈ vs ↔ v < L.length + 1
  deg : ∀ i, (adj L i).length ≤ 4
  least : 1 ≤ (yardsL L).length
  most : (yardsL L).length ≤ 7
  small : L.length ≤ 1000
theorem Good.bound {vs : List Nat} {L : Lanes} (g : Good vs L) : ∀ p ∈ L, p.1 ≤ L.length ∧ p.2 ≤ L.length := fun p hp => by
  have a : Adj L p.1 p.2 := .inl hp
  have h1 := (g.vs_ _).mp (g.tr.ends a).1
  have h2 := (g.vs_ _).mp (g.tr.ends a).2
  exact ⟨by omega, by omega⟩
theorem Tr.same {vs : List Nat} {L M : Lanes} (g : Tr vs L) (h : ∀ i, (nb M i).Perm (nb L i)) (hl : M.length = L.length) : Tr vs M where
  ends := fun a => g.ends ((nb_adj h).mp a)
  irrefl := fun a => g.irrefl ((nb_adj h).mp a)
  unique := fun P Q => g.unique (P.to (nb_adj h).mp) (Q.to (nb_adj h).mp)
  conn := fun hs ht => by
    obtain ⟨p, P, k⟩ := g.conn hs ht
    exact ⟨p, P.to (nb_adj h).mpr, k⟩
  nbnd := fun i => (h i).nodup_iff.mpr (g.nbnd i)
  length := by rw [hl, g.length]
  nodup := g.nodup
theorem yards_of {L M : Lanes} (h : ∀ i, (nb M i).Perm (nb L i)) (hl : M.length = L.length) : yardsL M = yardsL L := by
  unfold yardsL
  rw [adj_of h, hl]
theorem gates_of {L M : Lanes} (h : ∀ i, (nb M i).Perm (nb L i)) (hl : M.length = L.length) : gatesL M = gatesL L := by
  unfold gatesL
  rw [adj_of h, hl]
theorem Good.same {vs : List Nat} {L M : Lanes} (g : Good vs L) (h : ∀ i, (nb M i).Perm (nb L i)) (hl : M.length = L.length) : Good vs M where
  tr := g.tr.same h hl
  vs_ := fun v => by rw [hl]; exact g.vs_ v
  deg := fun i => by rw [adj_of h]; exact g.deg i
  least := by rw [yards_of h hl]; exact g.least
  most := by rw [yards_of h hl]; exact g.most
  small := by rw [hl]; exact g.small
theorem Ahead.same {L M : Lanes} (h : ∀ {a b : Nat}, Adj M a b ↔ Adj L a b) {goal : Nat} {kvs : List (Nat × Nat)} (A : Ahead M goal kvs) : Ahead L goal kvs :=
  ⟨⟨A.nd, fun i k hh e => ⟨h.mp (A.ord i k hh e).1, (A.ord i k hh e).2⟩⟩, fun x y k a => A.closed x y k (h.mpr a)⟩
theorem Good.zero {vs : List Nat} {L : Lanes} (g : Good vs L) : 0 ∈ vs := (g.vs_ 0).mpr (by omega)
/-- all but the goal are told -/
theorem Ahead.count {vs : List Nat} {L : Lanes} (g : Tr vs L) {goal : Nat} {kvs : List (Nat × Nat)} (A : Ahead L goal kvs) (hg : goal ∈ vs) : kvs.length = L.length := by
  have h1 : (goal :: keys kvs).length ≤ vs.length := by
    refine nodup_len (List.nodup_cons.mpr ⟨fun m => ?_, A.nd⟩) fun x hx => ?_
    · obtain ⟨p, hp, e⟩ := List.mem_map.mp m
      obtain ⟨j, hj⟩ := List.getElem?_of_mem hp
      exact (A.ord j p.1 p.2 hj).2.1 e
    · rcases List.mem_cons.mp hx with e | hx
      · exact e ▸ hg
      · obtain ⟨p, hp, e⟩ := List.mem_map.mp hx
        obtain ⟨j, hj⟩ := List.getElem?_of_mem hp
        exact e ▸ (g.ends (A.ord j p.1 p.2 hj).1).2
  have h2 : vs.length ≤ (goal :: keys kvs).length := nodup_len g.nodup fun x hx => by
    rcases A.all g hg hx with e | m
    · exact e ▸ List.mem_cons_self
    · exact List.mem_cons_of_mem _ m
  have := g.length
  simp [keys] at h1 h2
  omega
theorem mem_yards {L : Lanes} {u : Nat} : u ∈ yardsL L ↔ u < L.length + 1 ∧ 1 < (nb L u).length := by
  unfold yardsL
  rw [List.mem_filter, List.mem_range, adj_length]
  simp
theorem yards_nodup (L : Lanes) : (yardsL L).Nodup := List.nodup_range.filter _
theorem yards_sorted (L : Lanes) : (yardsL L).Pairwise (· ≤ ·) := by
  have h : (List.range (L.length + 1)).Pairwise (· ≤ ·) := (List.pairwise_lt_range).imp fun h => Nat.le_of_lt h
  exact h.filter _
end TM
set_option linter.all false
/-! trees drawn vertex by vertex, their numbers mixed. Plain Lean. -/
namespace TM
def deg (L : Lanes) (i : Nat) : Nat := (nb L i).length
theorem deg_P (L : Lanes) (i : Nat) : deg L i = (nbP L i).length := (nbP_perm L i).length_eq.symm
theorem deg_snoc (L : Lanes) (a b i : Nat) : deg (L ++ [(a, b)]) i = deg L i + ((if a = i then 1 else 0) + (if b = i then 1 else 0)) := by
  rw [deg_P, deg_P, nbP_snoc, List.length_append, List.length_append]
  congr 1
  split <;> split <;> simp
theorem deg_reverse (L : Lanes) (i : Nat) : deg L.reverse i = deg L i := (nb_perm (List.reverse_perm L) i).length_eq
theorem deg_none {vs : List Nat} {L : Lanes} (g : Grow vs L) {i : Nat} (h : i ∉ vs) : deg L i = 0 := by
  unfold deg
  cases e : nb L i with
  | nil => rfl
  | cons x r =>
    have : x ∈ nb L i := by rw [e]; exact List.mem_cons_self
    exact absurd (g.ends (mem_nb.mp this)).1 h
/-- places 0 .. i, lanes in the sequence in which they came -/
def Drawn (n : Nat) (L : Lanes) : Prop := Grow (List.range n).reverse L.reverse
theorem Drawn.start : Drawn 1 [] := Grow.one 0
theorem Drawn.more {n o : Nat} {L : Lanes} (d : Drawn n L) (ho : o < n) : Drawn (n + 1) (L ++ [(o, n)]) := by
  unfold Drawn
  rw [List.range_succ, List.reverse_append, List.reverse_append]
  exact Grow.step d (by simp [ho]) (by simp)
theorem Drawn.len {n : Nat} {L : Lanes} (d : Drawn n L) : n = L.length + 1 := by
  have := Grow.length d
  simpa using this
theorem Drawn.zero {n i : Nat} {L : Lanes} (d : Drawn n L) (h : n ≤ i) : deg L i = 0 := by
  rw [← deg_reverse]
  exact deg_none d (by simp; omega)
/-- the degrees that a drawn country ends with -/
structure Done (y : Nat) (L : Lanes) : Prop where
  dr : Drawn (L.length + 1) L
  yd : ∀ j, j < y → 2 ≤ deg L j ∧ deg L j ≤ 4
  gt : ∀ j, y ≤ j → deg L j ≤ 1
  y1 : 1 ≤ y
  y7 : y ≤ 7
  yn : y ≤ L.length + 1
  small : L.length ≤ 100
/-! ### other numbers -/
def ren (f : Nat → Nat) (L : Lanes) : Lanes := L.map fun p => (f p.1, f p.2)
theorem Grow.ren {vs : List Nat} {L : Lanes} (g : Grow vs L) {f : Nat → Nat} (inj : ∀ a ∈ vs, ∀ b ∈ vs, f a = f b → a = b) : Grow (vs.map f) (TM.ren f L) := by
  induction g with
  | one v => exact Grow.one _
  | @step vs L a b g ha hb ih =>
    refine Grow.step (ih fun x hx y hy => inj x (List.mem_cons_of_mem _ hx) y (List.mem_cons_of_mem _ hy)) (List.mem_map.mpr ⟨a, ha, rfl⟩) fun m => ?_
    obtain ⟨c, hc, e⟩ := List.mem_map.mp m
    have := inj c (List.mem_cons_of_mem _ hc) b List.mem_cons_self e
    exact hb (this ▸ hc)
theorem nb_ren {vs : List Nat} {L : Lanes} {f : Nat → Nat} (ends : ∀ p ∈ L, p.1 ∈ vs ∧ p.2 ∈ vs) (inj : ∀ a ∈ vs, ∀ b ∈ vs, f a = f b → a = b) {i : Nat} (hi : i ∈ vs) : nb (ren f L) (f i) = (nb L i).map f := by
  have h : ∀ (g1 g2 : Nat × Nat → Nat), (∀ p ∈ L, g1 p ∈ vs) → ∀ M : Lanes, (∀ p ∈ M, p ∈ L) → ((M.map fun p => (f (g1 p), f (g2 p))).filter fun q => decide (q.1 = f i)).map (·.2) = ((M.filter fun p => decide (g1 p = i)).map g2).map f := by
    intro g1 g2 hg M
    induction M with
    | nil => intro _; rfl
    | cons p M ih =>
      intro hM
      have ih := ih fun q hq => hM q (List.mem_cons_of_mem _ hq)
      have hp := hg p (hM p List.mem_cons_self)
      simp only [List.map_cons, List.filter_cons]
      by_cases c : g1 p = i
      · simp only [c, decide_true, if_true, List.map_cons, ih]
      · have c2 : ¬ f (g1 p) = f i := fun e => c (inj _ hp _ hi e)
        simp only [c, c2, decide_false, Bool.false_eq_true, if_false, ih]
  unfold nb out inn ren
  rw [List.map_append]
  congr 1
  · exact h (·.1) (·.2) (fun p hp => (ends p hp).1) L fun _ h => h
  · have := h (·.2) (·.1) (fun p hp => (ends p hp).2) L fun _ h => h
    rw [← this]
    rw [List.filter_map, List.filter_map, List.map_map, List.map_map]
    rfl
/-- numbers mixed: a list of all places, each once -/
structure Mixed (n : Nat) (ps : List Nat) : Prop where
  len : ps.length = n
  perm : ps.Perm (List.range n)
theorem Mixed.lt {n : Nat} {ps : List Nat} (m : Mixed n ps) {x : Nat} (h : x ∈ ps) : x < n := List.mem_range.mp (m.perm.mem_iff.mp h)
theorem Mixed.nd {n : Nat} {ps : List Nat} (m : Mixed n ps) : ps.Nodup := m.perm.nodup_iff.mpr List.nodup_range
theorem getD_at {l : List Nat} {i : Nat} (h : i < l.length) : l[i]? = some (l.getD i 0) := by
  rw [List.getD_eq_getElem?_getD, List.getElem?_eq_getElem h]
  rfl
theorem Mixed.inj {n : Nat} {ps : List Nat} (m : Mixed n ps) {a b : Nat} (ha : a < n) (hb : b < n) (e : ps.getD a 0 = ps.getD b 0) : a = b :=
  nodup_ix m.nd (getD_at (by rw [m.len]; exact ha)) (by rw [e]; exact getD_at (by rw [m.len]; exact hb))
theorem Mixed.map {n : Nat} {ps : List Nat} (m : Mixed n ps) : (List.range n).map (fun i => ps.getD i 0) = ps := by
  rw [← m.len]
  refine List.ext_getElem (by simp) fun i h1 h2 => ?_
  rw [List.getElem_map, List.getElem_range, List.getD_eq_getElem?_getD, List.getElem?_eq_getElem h2]
  rfl
/-- THE DRAWN LANES ARE THOSE OF A COUNTRY -/
theorem Done.good {y : Nat} {L : Lanes} {ps : List Nat} (D : Done y L) (m : Mixed (L.length + 1) ps) : ∃ vs, Good vs (ren (fun i => ps.getD i 0) L) := by
  let f : Nat → Nat := fun i => ps.getD i 0
  have inj : ∀ a ∈ (List.range (L.length + 1)).reverse, ∀ b ∈ (List.range (L.length + 1)).reverse, f a = f b → a = b := fun a ha b hb e => m.inj (by simpa using ha) (by simpa using hb) e
  have ends : ∀ p ∈ L, p.1 ∈ (List.range (L.length + 1)).reverse ∧ p.2 ∈ (List.range (L.length + 1)).reverse := fun p hp => Grow.ends D.dr (.inl (List.mem_reverse.mpr hp))
  have G := Grow.ren D.dr (f := f) inj
  have er : ren f L.reverse = (ren f L).reverse := by unfold ren; rw [List.map_reverse]
  rw [er] at G
  have len : (ren f L).length = L.length := by unfold ren; rw [List.length_map]
  have T : Tr ((List.range (L.length + 1)).reverse.map f) (ren f L) := G.tr (nb_perm (List.reverse_perm _).symm) (by rw [List.length_reverse])
  have fmem : ∀ v, v ∈ (List.range (L.length + 1)).reverse.map f ↔ v < L.length + 1 := fun v => by
    rw [List.map_reverse, List.mem_reverse]
    have : (List.range (L.length + 1)).map f = ps := m.map
    rw [this, m.perm.mem_iff, List.mem_range]
  have dg : ∀ i, i < L.length + 1 → (adj (ren f L) (f i)).length = deg L i := fun i hi => by
    rw [adj_length, nb_ren ends inj (by simpa using hi), List.length_map]
    rfl
  have yp : (yardsL (ren f L)).Perm ((List.range y).map f) := by
    have n1 := yards_nodup (ren f L)
    have n2 : ((List.range y).map f).Nodup := List.pairwise_map.mpr (List.Pairwise.imp_of_mem (fun {a b} ha hb h e => h (m.inj (by have := List.mem_range.mp ha; have := D.yn; omega) (by have := List.mem_range.mp hb; have := D.yn; omega) e)) List.nodup_range)
    refine (List.perm_ext_iff_of_nodup n1 n2).mpr fun u => ?_
    rw [mem_yards, len]
    constructor
    · rintro ⟨h1, h2⟩
      obtain ⟨i, hi, e⟩ := List.mem_map.mp ((fmem u).mpr h1)
      have hi : i < L.length + 1 := by simpa using hi
      refine List.mem_map.mpr ⟨i, List.mem_range.mpr ?_, e⟩
      refine Nat.lt_of_not_le fun hle => ?_
      have h3 := D.gt i hle
      have h4 := dg i hi
      rw [adj_length] at h4
      rw [← e] at h2
      omega
    · intro h
      obtain ⟨i, hi, e⟩ := List.mem_map.mp h
      have hi := List.mem_range.mp hi
      have hi2 : i < L.length + 1 := Nat.lt_of_lt_of_le hi D.yn
      have h4 := dg i hi2
      rw [adj_length] at h4
      refine ⟨?_, ?_⟩
      · rw [← e]
        exact (fmem _).mp (List.mem_map.mpr ⟨i, by simpa using hi2, rfl⟩)
      · rw [← e, h4]
        exact (D.yd i hi).1
  have yl : (yardsL (ren f L)).length = y := by rw [yp.length_eq, List.length_map, List.length_range]
  refine ⟨_, T, fun v => by rw [len]; exact fmem v, fun i => ?_, by rw [yl]; exact D.y1, by rw [yl]; exact D.y7, by rw [len]; have := D.small; omega⟩
  by_cases hi : i < L.length + 1
  · obtain ⟨j, hj, e⟩ := List.mem_map.mp ((fmem i).mpr hi)
    have hj : j < L.length + 1 := by simpa using hj
    rw [← e, dg j hj]
    by_cases c : j < y
    · exact (D.yd j c).2
    · have := D.gt j (by omega)
      omega
  · rw [adj_length]
    cases e : nb (ren f L) i with
    | nil => simp
    | cons x r =>
      have : x ∈ nb (ren f L) i := by rw [e]; exact List.mem_cons_self
      exact absurd ((fmem i).mp (T.ends (mem_nb.mp this)).1) hi
end TM
set_option linter.all false
/-! what lies behind a yard, by its other neighbours. Plain Lean. -/
namespace TM
section
variable {vs : List Nat} {L : Lanes} {N : Nat → Nat → Nat}
def bh (L : Lanes) (N : Nat → Nat → Nat) (y t : Nat) : List Nat := (yardsL L).filter (beh N y t)
theorem mem_bh {y t u : Nat} : u ∈ bh L N y t ↔ u ∈ yardsL L ∧ beh N y t u = true := List.mem_filter
theorem yard_vs (G : Good vs L) {u : Nat} (h : u ∈ yardsL L) : u ∈ vs := (G.vs_ u).mpr (mem_yards.mp h).1
theorem adj_vs (G : Good vs L) {u t : Nat} (h : t ∈ adj L u) : t ∈ vs := (G.tr.ends (mem_adj.mp h)).2
/-- of a gate all -/
theorem bh_gate (G : Good vs L) (I : IsNext vs L N) {y t : Nat} (hy : y ∈ yardsL L) (ht : t ∈ adj L y) (n : t ∉ yardsL L) : bh L N y t = yardsL L := by
  refine List.filter_eq_self.mpr fun u hu => ?_
  unfold beh
  by_cases e : u = y
  · simp [e]
  · have q := next_yard G.tr I (yard_vs G hu) (yard_vs G hy) e (mem_yards.mp hu).2
    have : ¬ N u y = t := fun z => n (mem_yards.mpr ⟨(G.vs_ t).mp (adj_vs G ht), z ▸ q.2⟩)
    simp [this]
/-- both sides: all, none twice -/
theorem bh_both (G : Good vs L) (I : IsNext vs L N) {y t : Nat} (ht : t ∈ adj L y) : isort (bh L N y t ++ bh L N t y) = yardsL L := by
  have e : bh L N t y = (yardsL L).filter fun u => !beh N y t u := by
    unfold bh
    exact List.filter_congr fun u hu => beh_other G.tr I (yard_vs G hu) (mem_adj.mp ht)
  rw [e]
  refine (isort_eq ?_ (yards_sorted L)).symm
  exact (List.filter_append_perm _ _).symm
def fnd (L : Lanes) (N : Nat → Nat → Nat) (y t : Nat) : List Nat → List Nat
  | [] => []
  | o :: os => (if o ≠ t ∧ o ∈ yardsL L then bh L N o y else []) ++ fnd L N y t os
theorem fnd_snoc (y t o : Nat) : ∀ os : List Nat, fnd L N y t (os ++ [o]) = fnd L N y t os ++ (if o ≠ t ∧ o ∈ yardsL L then bh L N o y else [])
  | [] => by simp [fnd]
  | a :: os => by
    show _ ++ fnd L N y t (os ++ [o]) = (_ ++ _) ++ _
    rw [fnd_snoc y t o os, List.append_assoc]
theorem mem_fnd {y t u : Nat} : ∀ {os : List Nat}, u ∈ fnd L N y t os ↔ ∃ o ∈ os, o ≠ t ∧ o ∈ yardsL L ∧ u ∈ bh L N o y
  | [] => by simp [fnd]
  | a :: os => by
    have ih := mem_fnd (y := y) (t := t) (u := u) (os := os)
    unfold fnd
    rw [List.mem_append, ih]
    constructor
    · rintro (h | ⟨o, h1, h2⟩)
      · split at h
        · rename_i c
          exact ⟨a, List.mem_cons_self, c.1, c.2, h⟩
        · cases h
      · exact ⟨o, List.mem_cons_of_mem _ h1, h2⟩
    · rintro ⟨o, h1, h2, h3, h4⟩
      rcases List.mem_cons.mp h1 with e | h1
      · subst e
        left
        rw [if_pos ⟨h2, h3⟩]
        exact h4
      · exact .inr ⟨o, h1, h2, h3, h4⟩
theorem bh_nodup (y t : Nat) : (bh L N y t).Nodup := (yards_nodup L).filter _
theorem bh_len (G : Good vs L) (y t : Nat) : (bh L N y t).length ≤ 7 := Nat.le_trans (List.length_filter_le _ _) G.most
theorem fnd_len (G : Good vs L) (y t : Nat) : ∀ os : List Nat, (fnd L N y t os).length ≤ 7 * os.length
  | [] => by simp [fnd]
  | a :: os => by
    have ih := fnd_len G y t os
    have h := bh_len G a y (N := N)
    unfold fnd
    rw [List.length_append, List.length_cons]
    split <;> simp <;> omega
theorem fnd_nodup (G : Good vs L) (I : IsNext vs L N) {y t : Nat} : ∀ {os : List Nat}, os.Nodup → (∀ o ∈ os, o ∈ adj L y) → (fnd L N y t os).Nodup
  | [], _, _ => by simp [fnd]
  | a :: os, nd, ad => by
    have ih := fnd_nodup G I (t := t) (List.nodup_cons.mp nd).2 fun o ho => ad o (List.mem_cons_of_mem _ ho)
    unfold fnd
    split
    · refine List.nodup_append.mpr ⟨bh_nodup _ _, ih, fun u hu v hv e => ?_⟩
      subst e
      obtain ⟨o, h1, h2, h3, h4⟩ := mem_fnd.mp hv
      have q1 := (beh_nb G.tr I (yard_vs G (mem_bh.mp hu).1) (mem_adj.mp (ad a List.mem_cons_self))).mp (mem_bh.mp hu).2
      have q2 := (beh_nb G.tr I (yard_vs G (mem_bh.mp hu).1) (mem_adj.mp (ad o (List.mem_cons_of_mem _ h1)))).mp (mem_bh.mp h4).2
      exact (List.nodup_cons.mp nd).1 ((q1.2.symm.trans q2.2) ▸ h1)
    · exact ih
theorem fnd_all (G : Good vs L) (I : IsNext vs L N) {y t : Nat} (hy : y ∈ yardsL L) (ht : t ∈ adj L y) : isort (y :: fnd L N y t (adj L y)) = bh L N y t := by
  refine (isort_eq ?_ ((yards_sorted L).filter _)).symm
  have nd : (y :: fnd L N y t (adj L y)).Nodup := by
    refine List.nodup_cons.mpr ⟨fun h => ?_, fnd_nodup G I (G.tr.adj_nodup y) fun _ h => h⟩
    obtain ⟨o, h1, h2, h3, h4⟩ := mem_fnd.mp h
    exact ((beh_nb G.tr I (yard_vs G hy) (mem_adj.mp h1)).mp (mem_bh.mp h4).2).1 rfl
  refine (List.perm_ext_iff_of_nodup (bh_nodup _ _) nd).mpr fun u => ?_
  constructor
  · intro h
    obtain ⟨h1, h2⟩ := mem_bh.mp h
    by_cases e : u = y
    · subst e
      exact List.mem_cons_self
    · refine List.mem_cons_of_mem _ (mem_fnd.mpr ?_)
      have q := next_yard G.tr I (yard_vs G h1) (yard_vs G hy) e (mem_yards.mp h1).2
      unfold beh at h2
      have nt : N u y ≠ t := by simpa [e] using h2
      have ho : N u y ∈ adj L y := mem_adj.mpr q.1
      exact ⟨N u y, ho, nt, mem_yards.mpr ⟨(G.vs_ _).mp (adj_vs G ho), q.2⟩, mem_bh.mpr ⟨h1, (beh_nb G.tr I (yard_vs G h1) q.1).mpr ⟨e, rfl⟩⟩⟩
  · intro h
    rcases List.mem_cons.mp h with e | h
    · subst e
      exact mem_bh.mpr ⟨hy, by simp [beh]⟩
    · obtain ⟨o, h1, h2, h3, h4⟩ := mem_fnd.mp h
      obtain ⟨k1, k2⟩ := mem_bh.mp h4
      have q := (beh_nb G.tr I (yard_vs G k1) (mem_adj.mp h1)).mp k2
      refine mem_bh.mpr ⟨k1, ?_⟩
      unfold beh
      have : ¬ N u y = t := fun z => h2 (q.2.symm.trans z)
      simp [this]
/-- there is a word of the next places -/
theorem next_is (G : Tr vs L) : ∃ N, IsNext vs L N := by
  classical
  refine ⟨fun g p => if h : ∃ x r, Path L p g (p :: x :: r) then h.choose else 0, fun g p hg hp n => ?_⟩
  have h : ∃ x r, Path L p g (p :: x :: r) := by
    obtain ⟨w, P, _⟩ := G.conn hp hg
    cases w with
    | nil => have := P.hd; cases this
    | cons a w =>
      have e : a = p := Option.some.inj P.hd
      subst e
      cases w with
      | nil => exact absurd (Option.some.inj P.lt) n
      | cons x r => exact ⟨x, r, P⟩
  show ∃ r, Path L p g (p :: (if h : ∃ x r, Path L p g (p :: x :: r) then h.choose else 0) :: r)
  rw [dif_pos h]
  exact h.choose_spec
end
end TM
set_option linter.all false
/-! three places of a tree: where their ways meet. Plain Lean. -/
namespace TM
section
variable {vs : List Nat} {L : Lanes}
theorem Chain.app : ∀ {p : List Nat} {c : Nat} {q : List Nat}, Chain L (p ++ [c]) → Chain L (c :: q) → Chain L (p ++ c :: q)
  | [], _, _, _, h => h
  | [x], _, _, h1, h2 => ⟨h1.1, h2⟩
  | x :: y :: p, c, q, h1, h2 => ⟨h1.1, Chain.app (p := y :: p) h1.2 h2⟩
/-- the first of a list that holds -/
theorem first_of {α : Type} (f : α → Prop) : ∀ {l : List α} {m : α}, m ∈ l → f m → ∃ D c B, l = D ++ c :: B ∧ f c ∧ ∀ x ∈ D, ¬ f x
  | a :: l, m, h, hm => by
    by_cases k : f a
    · exact ⟨[], a, l, rfl, k, fun _ h => nomatch h⟩
    · rcases List.mem_cons.mp h with e | h
      · exact absurd (e ▸ hm) k
      · obtain ⟨D, c, B, e, hc, n⟩ := first_of f h hm
        refine ⟨a :: D, c, B, by rw [e]; rfl, hc, fun x hx => ?_⟩
        rcases List.mem_cons.mp hx with e | hx
        · exact e ▸ k
        · exact n x hx
theorem Path.cut {s t : Nat} {D B : List Nat} {c : Nat} (P : Path L s t (D ++ c :: B)) : Path L s c (D ++ [c]) ∧ Path L c t (c :: B) := by
  have e : D ++ c :: B = (D ++ [c]) ++ B := by simp
  refine ⟨⟨(e ▸ P.ch).left, ?_, ?_, by simp⟩, ⟨P.ch.right, (List.nodup_append.mp P.nd).2.1, rfl, ?_⟩⟩
  · have := P.nd
    rw [e] at this
    exact (List.nodup_append.mp this).1
  · have := P.hd
    cases D with
    | nil => exact this
    | cons a D => exact this
  · have := P.lt
    rw [List.getLast?_append] at this
    cases q : (c :: B).getLast? with
    | none => simp at q
    | some z => rw [q] at this; exact this
structure Meet (o m t : Nat) (P Q R : List Nat) (c : Nat) (a b d : Nat) : Prop where
  lp : P.length = a + b + 1
  lq : Q.length = b + d + 1
  lr : R.length = a + d + 1
  one : (P.filter fun x => decide (x ∈ Q) && decide (x ∈ R)) = [c]
  zero : b = 0 ↔ m ∈ R
  leg : ∃ B, Path L m c B ∧ B.length = b + 1
theorem meet (G : Tr vs L) {o m t : Nat} {P Q R : List Nat} (hP : Path L o m P) (hQ : Path L m t Q) (hR : Path L o t R) : ∃ c a b d, Meet (L := L) o m t P Q R c a b d ∧ c ∈ P := by
  have hQr := hQ.reverse
  have mP : m ∈ P := List.mem_of_getLast? hP.lt
  have mQ : m ∈ Q.reverse := List.mem_of_getLast? hQr.lt
  obtain ⟨D, c, B, eQ, cP, nD⟩ := first_of (fun x => x ∈ P) mQ mP
  obtain ⟨A, B2, eP⟩ := List.append_of_mem cP
  rw [eQ] at hQr
  have hP' := hP
  rw [eP] at hP'
  obtain ⟨Q1, Q2⟩ := hQr.cut
  obtain ⟨P1, P2⟩ := hP'.cut
  have eB : B2 = B := by
    have := G.unique P2 Q2
    injection this
  subst eB
  have ndP := List.nodup_append.mp (eP ▸ hP.nd)
  have ndQ := List.nodup_append.mp hQr.nd
  have ncP := List.nodup_cons.mp ndP.2.1
  have dA : ∀ x ∈ D, x ∉ A := fun x hx ha => nD x hx (by rw [eP]; exact List.mem_append_left _ ha)
  have dB : ∀ x ∈ D, x ∉ c :: B2 := fun x hx ha => nD x hx (by rw [eP]; exact List.mem_append_right _ ha)
  have aB : ∀ x ∈ A, x ∉ c :: B2 := fun x hx ha => ndP.2.2 x hx x ha rfl
  have hR' : Path L o t (A ++ c :: D.reverse) := by
    refine ⟨P1.ch.app ?_, ?_, ?_, ?_⟩
    · have := Q1.reverse.ch
      rwa [List.reverse_append] at this
    · refine List.nodup_append.mpr ⟨ndP.1, ?_, fun x hx y hy e => ?_⟩
      · have := Q1.reverse.nd
        rwa [List.reverse_append] at this
      · subst e
        rcases List.mem_cons.mp hy with e | hy
        · exact aB x hx (e ▸ List.mem_cons_self)
        · exact dA x (List.mem_reverse.mp hy) hx
    · have := P1.hd
      cases A with
      | nil => exact this
      | cons a A => exact this
    · have := Q1.reverse.lt
      rw [List.reverse_append] at this
      rw [List.getLast?_append]
      have e : ([c].reverse ++ D.reverse) = c :: D.reverse := rfl
      rw [e] at this
      rw [this]
      rfl
  have eR := G.unique hR hR'
  have inQ : ∀ x, x ∈ Q ↔ x ∈ D ++ c :: B2 := fun x => by rw [← eQ, List.mem_reverse]
  have only : ∀ x, x ∈ P → x ∈ Q → x ∈ R → x = c := by
    intro x h1 h2 h3
    rw [eP] at h1
    rw [inQ] at h2
    rw [eR] at h3
    rcases List.mem_append.mp h1 with h1 | h1
    · rcases List.mem_append.mp h2 with h2 | h2
      · exact absurd h1 (dA x h2)
      · exact absurd h2 (aB x h1)
    · rcases List.mem_cons.mp h1 with e | h1
      · exact e
      · rcases List.mem_append.mp h3 with h3 | h3
        · exact absurd (List.mem_cons_of_mem _ h1) (aB x h3)
        · rcases List.mem_cons.mp h3 with e | h3
          · exact e
          · exact absurd (List.mem_cons_of_mem _ h1) (dB x (List.mem_reverse.mp h3))
  have cQ : c ∈ Q := (inQ c).mpr (by simp)
  have cR : c ∈ R := by rw [eR]; simp
  refine ⟨c, A.length, B2.length, D.length, ⟨?_, ?_, ?_, ?_, ?_, ⟨(c :: B2).reverse, P2.reverse, by simp⟩⟩, cP⟩
  · rw [eP]; simp; omega
  · have := congrArg List.length eQ
    rw [List.length_reverse] at this
    rw [this]; simp; omega
  · rw [eR]; simp; omega
  · rw [eP, List.filter_append, List.filter_cons, if_pos (by simp [cQ, cR])]
    have nA : A.filter (fun x => decide (x ∈ Q) && decide (x ∈ R)) = [] := List.filter_eq_nil_iff.mpr fun x hx h => by
      simp only [Bool.and_eq_true, decide_eq_true_eq] at h
      have := only x (by rw [eP]; exact List.mem_append_left _ hx) h.1 h.2
      exact aB x hx (this ▸ List.mem_cons_self)
    have nB : B2.filter (fun x => decide (x ∈ Q) && decide (x ∈ R)) = [] := List.filter_eq_nil_iff.mpr fun x hx h => by
      simp only [Bool.and_eq_true, decide_eq_true_eq] at h
      have := only x (by rw [eP]; exact List.mem_append_right _ (List.mem_cons_of_mem _ hx)) h.1 h.2
      exact ncP.1 (this ▸ hx)
    rw [nA, nB]
    rfl
  · constructor
    · intro z
      have : B2 = [] := List.length_eq_zero_iff.mp z
      subst this
      have e : c = m := Option.some.inj P2.lt
      exact e ▸ cR
    · intro h
      have e := only m mP (by rw [← List.mem_reverse]; exact mQ) h
      subst e
      have := path_one P2
      injection this with _ e
      rw [e]
      rfl
/-- what lies between both ends has two neighbours -/
theorem inner_yard (G : Good vs L) {s t x : Nat} {W : List Nat} (P : Path L s t W) (h : ∃ A B y z, W = A ++ y :: x :: z :: B) : x ∈ yardsL L := by
  obtain ⟨A, B, y, z, e⟩ := h
  have c : Chain L (y :: x :: z :: B) := by
    have := P.ch
    rw [e] at this
    exact this.right
  have nd := P.nd
  rw [e] at nd
  have nd2 := (List.nodup_append.mp nd).2.1
  refine mem_yards.mpr ⟨(G.vs_ x).mp (G.tr.ends c.1).2, two_nb c.1.symm c.2.1 fun q => ?_⟩
  exact (List.nodup_cons.mp nd2).1 (q ▸ by simp)
end
end TM
set_option linter.all false
/-! lanes in their sequence: told by what they are. Plain Lean. -/
namespace TM
def lexLe (p q : Nat × Nat) : Prop := p.1 < q.1 ∨ (p.1 = q.1 ∧ p.2 ≤ q.2)
def LexS (M : Lanes) : Prop := M.Pairwise lexLe
theorem lex_anti {p q : Nat × Nat} (h1 : lexLe p q) (h2 : lexLe q p) : p = q := by
  obtain ⟨a, b⟩ := p
  obtain ⟨c, d⟩ := q
  unfold lexLe at h1 h2
  simp only at h1 h2
  have e1 : a = c := by omega
  have e2 : b = d := by omega
  rw [e1, e2]
theorem lex_unique : ∀ {l m : Lanes}, l.Perm m → LexS l → LexS m → l = m
  | [], m, p, _, _ => (List.nil_perm.mp p).symm
  | a :: l, [], p, _, _ => absurd (List.perm_nil.mp p) (by simp)
  | a :: l, b :: m, p, h1, h2 => by
    obtain ⟨a1, a2⟩ := List.pairwise_cons.mp h1
    obtain ⟨b1, b2⟩ := List.pairwise_cons.mp h2
    have e : a = b := by
      have ma : a ∈ b :: m := p.mem_iff.mp List.mem_cons_self
      have mb : b ∈ a :: l := p.mem_iff.mpr List.mem_cons_self
      rcases List.mem_cons.mp ma with e | ma
      · exact e
      · rcases List.mem_cons.mp mb with e | mb
        · exact e.symm
        · exact lex_anti (a1 b mb) (b1 a ma)
    subst e
    rw [lex_unique (List.Perm.cons_inv p) a2 b2]
end TM
set_option Elab.async false
set_option linter.all false
set_option maxRecDepth 100000
set_option maxHeartbeats 4000000
/-! what a reading evaluates to, with what is true of it behind (P: value, heap ahead, heap behind) -/
namespace Ep
open PySem PySem.Spec PyProof.Rows L2
open Evl (Ex Ev EvT EvA EvL EvU)
def rLenA (K : PySem.W.Frag) : List V → Hp → VK → Prop := fun xs H Q => ∃ x n, xs = [x] ∧ LenV K x H n ∧ Q (V.int ↑n) H
def rListOf (K : PySem.W.Frag) : List V → Hp → VK → Prop := fun xs H Q => ∃ p ys, xs = [V.ref p] ∧ (SqL K H p ys ∨ SqT K H p ys) ∧ ∀ (l : Addr), H l = none → Q (V.ref l) (upd H l (HO.lst ys))
def rTupOf (K : PySem.W.Frag) : List V → Hp → VK → Prop := fun xs H Q => ∃ p ys, xs = [V.ref p] ∧ ((SqL K H p ys ∧ ∀ (l : Addr), H l = none → Q (V.ref l) (upd H l (HO.tup ys))) ∨ SqT K H p ys ∧ Q (V.ref p) H)
abbrev VP := V → Hp → Hp → Prop
def EvP (te : TE) (σ : L2.St) (H : Hp) (P : VP) : Prop := ∀ H1, Ex H H1 → ∀ Q : VK, (∀ v H2, Ex H1 H2 → P v H1 H2 → Q v H2) → te σ H1 Q
def EvAP (ta : TA) (σ : L2.St) (H : Hp) (P : List V → Hp → Hp → Prop) : Prop := ∀ H1, Ex H H1 → ∀ Q : List V → Hp → Prop, (∀ vs H2, Ex H1 H2 → P vs H1 H2 → Q vs H2) → ta σ H1 Q
def NewL (xs : List V) : VP := fun v H1 H2 => ∃ p, v = .ref p ∧ H1 p = none ∧ H2 p = some (.lst xs)
def Is (z : V) : VP := fun v _ _ => v = z
section
variable {K : PySem.W.Frag} {σ : L2.St} {H H' : Hp} {te ta tb : TE} {P P' : VP} {z : V} {xs : List V}
theorem EvP.mono (e : Ex H H') (h : EvP te σ H P) : EvP te σ H' P := fun H1 a Q q => h H1 (e.trans a) Q q
theorem EvP.imp (h : EvP te σ H P) (k : ∀ v H1 H2, Ex H H1 → Ex H1 H2 → P v H1 H2 → P' v H1 H2) : EvP te σ H P' := fun H1 a Q q => h H1 a Q fun v H2 e p => q v H2 e (k v H1 H2 a e p)
theorem EvP.run (h : EvP te σ H P) {Q : VK} (q : ∀ v H2, Ex H H2 → P v H H2 → Q v H2) : te σ H Q := h H (Ex.refl H) Q q
theorem evp_ev (h : Ev te σ H z) : EvP te σ H (Is z) := fun H1 a Q q => h H1 a Q fun H2 e => q z H2 e rfl
theorem ev_evp (h : EvP te σ H (Is z)) : Ev te σ H z := fun H1 a Q q => h H1 a Q fun v H2 e p => by
  cases p
  exact q H2 e
theorem evp_L (h : EvL te σ H xs) : EvP te σ H (NewL xs) := fun H1 a Q q => h H1 a Q fun p H2 hp e k => q (.ref p) H2 e ⟨p, rfl, hp, k⟩
theorem ev_L (h : EvP te σ H (NewL xs)) : EvL te σ H xs := fun H1 a Q q => h H1 a Q fun v H2 e k => by
  obtain ⟨p, rfl, hp, k⟩ := k
  exact q p H2 hp e k
theorem evap_nil : EvAP tNil σ H (fun vs _ _ => vs = []) := fun H1 _ _ q => q _ H1 (Ex.refl H1) rfl
theorem evap_one (h : EvP te σ H P) : EvAP (tCons te tNil) σ H (fun vs H1 H2 => ∃ v, vs = [v] ∧ P v H1 H2) := fun H1 a Q q => h H1 a _ fun v H2 e p => q [v] H2 e ⟨v, rfl, p⟩
/-- a new list, told by what holds of its items -/
theorem evp_lst {ta : TA} {vs : List V} (h : EvA ta σ H vs) (hl : vs.length ≤ 100000) : EvP (tLst ta) σ H (NewL vs) := evp_L (Evl.el_lst h hl)
theorem evp_tup {ta : TA} {vs : List V} (h : EvA ta σ H vs) (hl : vs.length ≤ 100000) : EvP (tTup ta) σ H (fun v H1 H2 => ∃ p, v = .ref p ∧ H1 p = none ∧ H2 p = some (.tup vs)) := fun H1 a Q q =>
  Evl.eu_tup h hl H1 a Q fun p H2 hp e k => q _ H2 e ⟨p, rfl, hp, k⟩
theorem evp_call {sp : Sp} {dvs : List V} {E : XK} {ta : TA} {PA : List V → Hp → Hp → Prop} (h : EvAP ta σ H PA) (hs : ∀ vs H1 H2, Ex H H1 → Ex H1 H2 → PA vs H1 H2 → ∀ Q : VK, (∀ v H3, Ex H2 H3 → P v H1 H3 → Q v H3) → sp (vs ++ dvs) H2 Q E) : EvP (tCall sp dvs E ta) σ H P := fun H1 a Q q =>
  h H1 a _ fun vs H2 e p => hs vs H1 H2 a e p Q fun v H3 e3 p3 => q v H3 (e.trans e3) p3
theorem evp_callA {sp : Sp} {dvs vs : List V} {E : XK} {ta : TA} (h : EvA ta σ H vs) (hs : ∀ H2, Ex H H2 → ∀ Q : VK, (∀ v H3, Ex H2 H3 → P v H2 H3 → Q v H3) → sp (vs ++ dvs) H2 Q E) (hP : ∀ v H1 H2 H3, Ex H H1 → Ex H1 H2 → Ex H2 H3 → P v H2 H3 → P v H1 H3) : EvP (tCall sp dvs E ta) σ H P := fun H1 a Q q =>
  h H1 a _ fun H2 e => hs H2 (a.trans e) Q fun v H3 e3 p3 => q v H3 (e.trans e3) (hP v H1 H2 H3 a e e3 p3)
theorem newL_back {H1 H2 H3 : Hp} {v : V} (e : Ex H1 H2) (h : NewL xs v H2 H3) : NewL xs v H1 H3 := by
  obtain ⟨p, r, hp, k⟩ := h
  exact ⟨p, r, Evl.fresh_back e hp, k⟩
end
theorem cb_one {r : List V → Hp → VK → Prop} {te : TE} {σ : L2.St} {H : Hp} {P : VP} {Q : VK} (h : EvP te σ H P) (k : ∀ v H2, Ex H H2 → P v H H2 → r [v] H2 Q) : tCB r (tCons te tNil) σ H Q := h.run k
theorem evp_cb1 {r : List V → Hp → VK → Prop} {te : TE} {σ : L2.St} {H : Hp} {P P' : VP} (h : EvP te σ H P) (k : ∀ v H1 H2, Ex H H1 → Ex H1 H2 → P v H1 H2 → ∀ Q : VK, (∀ z H3, Ex H2 H3 → P' z H1 H3 → Q z H3) → r [v] H2 Q) : EvP (tCB r (tCons te tNil)) σ H P' := fun H1 a Q q =>
  h H1 a _ fun v H2 e p => k v H1 H2 a e p Q fun z H3 e3 p3 => q z H3 (e.trans e3) p3
section
variable {te ta tv : TE} {σ : L2.St} {H : Hp} {P : VP} {D : Ends} {tz tu tw : TS} {t : TT} {i : Nat}
theorem p_asg (h : EvP te σ H P) (k : ∀ v H1, Ex H H1 → P v H H1 → tz D (σ.set i (some v)) H1) : tSeq (tAsg te (gName i)) tz D σ H := h.run k
theorem p_asg1 (h : EvP te σ H P) (k : ∀ v H1, Ex H H1 → P v H H1 → D.nx (σ.set i (some v)) H1) : tAsg te (gName i) D σ H := h.run k
theorem p_asgG {g : TG} (h : EvP te σ H P) (k : ∀ v H1, Ex H H1 → P v H H1 → g v σ H1 fun σ' H' => tz D σ' H') : tSeq (tAsg te g) tz D σ H := h.run k
theorem p_ret (h : EvP te σ H P) (k : ∀ v H1, Ex H H1 → P v H H1 → D.rt v H1) : tRet te D σ H := h.run k
theorem p_drop (h : EvP te σ H P) (k : ∀ v H1, Ex H H1 → P v H H1 → tz D σ H1) : tSeq (tDrop te) tz D σ H := h.run k
theorem p_drop1 (h : EvP te σ H P) (k : ∀ v H1, Ex H H1 → P v H H1 → D.nx σ H1) : tDrop te D σ H := h.run k
theorem p_if {b : Bool} (h : EvT t σ H b) (h1 : b = true → ∀ H1, Ex H H1 → tu { D with nx := tz D } σ H1) (h2 : b = false → ∀ H1, Ex H H1 → tw { D with nx := tz D } σ H1) : tSeq (tIfS t tu tw) tz D σ H := Evl.q_if h h1 h2
/-- an if that is not gone into -/
theorem p_skip (h : EvT t σ H false) (k : ∀ H1, Ex H H1 → tz D σ H1) : tSeq (tIfS t tu tNext) tz D σ H := Evl.q_when h (fun z => nomatch z) (fun _ => k)
theorem p_skip1 (h : EvT t σ H false) (k : ∀ H1, Ex H H1 → D.nx σ H1) : tIfS t tu tNext D σ H := Evl.s_when h (fun z => nomatch z) (fun _ => k)
theorem evt_P {b : Bool} (h : EvP te σ H (Is (.bl b))) : EvT (tB te) σ H b := Evl.et_B (ev_evp h)
end
theorem evp_dnew {σ : L2.St} {H : Hp} : EvP tDNewK σ H (fun v H1 H2 => ∃ p, v = .ref p ∧ H1 p = none ∧ H2 p = some (.dK [])) := fun H1 _ _ q p hp => q _ _ (Ex.new hp) ⟨p, rfl, hp, upd_same⟩
theorem ev_lenL {K : PySem.W.Frag} {ta : TE} {σ : L2.St} {H : Hp} {p : Addr} {xs : List V} (h : Ev ta σ H (.ref p)) (hx : SqL K H p xs) : Ev (tCB (rLenA K) (tCons ta tNil)) σ H (.int (xs.length : Int)) := fun H1 e Q q =>
  h H1 e _ fun H2 e2 => ⟨_, _, rfl, .inl ⟨xs, Evl.ex_l (e.trans e2) hx, rfl⟩, q H2 e2⟩
theorem ev_lenP {K : PySem.W.Frag} {ta : TE} {σ : L2.St} {H : Hp} {xs : List V} (h : EvP ta σ H (fun v _ H2 => ∃ p, v = .ref p ∧ H2 p = some (.lst xs))) : Ev (tCB (rLenA K) (tCons ta tNil)) σ H (.int (xs.length : Int)) := fun H1 e Q q =>
  h H1 e _ fun v H2 e2 ⟨p, r, k⟩ => ⟨v, xs.length, rfl, by subst r; exact .inl ⟨xs, Evl.sq_of k, rfl⟩, q H2 e2⟩
theorem pe_globI {X : Cx} {x : Str} {n : Int} {pos : Pos} (hg : Gl X x) (h : ∃ t, X.mg x = some (.int n t)) (hd : (x == ("__debug__" : Str)) = false := by decide) : PE X (.Name x pos) (tC (.int n)) := by
  obtain ⟨t, e⟩ := h
  exact pe_glob hg e ⟨t, rfl⟩ hd
theorem newL_at {xs : List V} {v : V} {H1 H2 : Hp} (h : NewL xs v H1 H2) : ∃ p, v = .ref p ∧ H2 p = some (.lst xs) := by
  obtain ⟨p, a, _, b⟩ := h
  exact ⟨p, a, b⟩
theorem rv_I0P {f : Int → Int → V} {i j : Int} {H : Hp} : Evl.RV (rI0 f) (.int i) (.int j) H (f i j) := Evl.rv_I0
def rLenD : List V → Hp → VK → Prop := fun xs H Q => ∃ a kvs, xs = [V.ref a] ∧ H a = some (.dK kvs) ∧ Q (.int kvs.length) H
theorem evt_leC {ta : TE} {σ : L2.St} {H : Hp} {c : Int} (h : EvP ta σ H (fun v _ _ => ∃ m : Int, v = .int m ∧ m ≤ c)) : EvT (tTest (tOp (rI0 fun i j => V.bl (decide (j < i))) ta (tC (.int c)))) σ H false := fun H1 e Q q => h H1 e _ fun v H2 e2 ⟨m, r, hm⟩ => by
  subst r
  refine ⟨m, c, rfl, rfl, false, ?_, q H2 e2⟩
  show V.bl (decide (c < m)) = _
  rw [decide_eq_false (by omega)]
theorem ev_fld {K : PySem.W.Frag} {σ : L2.St} {H : Hp} {i : Nat} {p C dx : Addr} {fs : List (Str × V)} {f : Str} {v : V} (hi : σ[i]? = some (some (.ref p))) (ho : H p = some (.ins C dx fs)) (cl : Cls K C) (na : NoAttr K C f) (hl : fs.lookup f = some v) : Ev (tFld K (tVar i) f) σ H v := fun H1 e Q q =>
  ⟨_, hi, p, C, dx, fs, v, rfl, e _ _ ho, cl, na, hl, q H1 (Ex.refl _)⟩
section
variable {K : PySem.W.Frag} {te tv : TE} {σ : L2.St} {H : Hp} {P : VP} {D : Ends} {tz : TS} {i : Nat} {p C dx : Addr} {fs : List (Str × V)} {f : Str}
theorem p_fld1 (h : EvP tv σ H P) (hi : σ[i]? = some (some (.ref p))) (ho : H p = some (.ins C dx fs)) (cl : Cls K C) (na : NoAttr K C f) (hl : fs.length < 1000) (k : ∀ v H1, Ex H H1 → P v H H1 → D.nx σ (upd H1 p (.ins C dx (putF f v fs)))) : sFld K (tVar i) tv f D σ H :=
  h.run fun v H1 e p1 => ⟨_, hi, p, C, dx, fs, rfl, e _ _ ho, cl, na, hl, k v H1 e p1⟩
theorem p_fld (h : EvP tv σ H P) (hi : σ[i]? = some (some (.ref p))) (ho : H p = some (.ins C dx fs)) (cl : Cls K C) (na : NoAttr K C f) (hl : fs.length < 1000) (k : ∀ v H1, Ex H H1 → P v H H1 → tz D σ (upd H1 p (.ins C dx (putF f v fs)))) : tSeq (sFld K (tVar i) tv f) tz D σ H :=
  h.run fun v H1 e p1 => ⟨_, hi, p, C, dx, fs, rfl, e _ _ ho, cl, na, hl, k v H1 e p1⟩
end
/-- a heap without one object -/
def but (H : Hp) (p : Addr) : Hp := fun b => if b = p then none else H b
theorem but_ex {H : Hp} {p : Addr} : Ex (but H p) H := fun b o h => by
  unfold but at h
  split at h
  · cases h
  · exact h
theorem but_at {H : Hp} {p : Addr} : but H p p = none := by unfold but; rw [if_pos rfl]
theorem but_ne {H : Hp} {p b : Addr} {o : HO} (h : H b = some o) (n : b ≠ p) : but H p b = some o := by unfold but; rw [if_neg n]; exact h
theorem ev_cb2 {r : List V → Hp → VK → Prop} {ta tb : TE} {σ : L2.St} {H : Hp} {x y z : V} (ha : Ev ta σ H x) (hb : Ev tb σ H y) (hr : ∀ H1, Ex H H1 → ∀ Q : VK, Q z H1 → r [x, y] H1 Q) : Ev (tCB r (tCons ta (tCons tb tNil))) σ H z := fun H1 e Q q =>
  ha H1 e _ fun H2 e2 => hb H2 (e.trans e2) _ fun H3 e3 => hr H3 ((e.trans e2).trans e3) Q (q H3 (e2.trans e3))
theorem ev_cb1 {r : List V → Hp → VK → Prop} {ta : TE} {σ : L2.St} {H : Hp} {x z : V} (ha : Ev ta σ H x) (hr : ∀ H1, Ex H H1 → ∀ Q : VK, Q z H1 → r [x] H1 Q) : Ev (tCB r (tCons ta tNil)) σ H z := fun H1 e Q q =>
  ha H1 e _ fun H2 e2 => hr H2 (e.trans e2) Q (q H2 e2)
/-! ### sources -/
def Src (wi : TI) (σ : L2.St) (H : Hp) (n : Nat) (X : Nat → V → Prop) : Prop := ∀ H1, Ex H H1 → ∀ R : It → Hp → Prop,
  (∀ J H2 (G : Hp → Prop), Ex H1 H2 → (∀ H3, Ex H2 H3 → G H3) → Walk J n G (fun i H v H' => H' = H ∧ X i v) → R J H2) → wi σ H1 R
section
variable {K : PySem.W.Frag} {σ : L2.St} {H H' : Hp} {tl : TE} {a : Addr} {xs : List V}
theorem src_list (h : Ev tl σ H (.ref a)) (hx : SqL K H a xs) : Src (iList K tl) σ H xs.length (fun i v => xs[i]? = some v) := fun H1 e R k =>
  h H1 e _ fun H2 e2 => ⟨a, rfl, ⟨xs, Evl.ex_l (e.trans e2) hx⟩, k _ H2 (fun H => SqL K H a xs) e2 (fun H3 e3 => Evl.ex_l ((e.trans e2).trans e3) hx) walk_list⟩
theorem src_listN (h : EvP tl σ H (fun v H1 H2 => ∃ p, v = .ref p ∧ H2 p = some (.lst xs))) : Src (iList K tl) σ H xs.length (fun i v => xs[i]? = some v) := fun H1 e R k =>
  h H1 e _ fun v H2 e2 ⟨p, r, hp⟩ => ⟨p, r, ⟨xs, Evl.sq_of hp⟩, k _ H2 (fun H => SqL K H p xs) e2 (fun H3 e3 => Evl.sq_of (e3 _ _ hp)) walk_list⟩
theorem src_tup (h : Ev tl σ H (.ref a)) (hx : SqT K H a xs) : Src (iTup K tl) σ H xs.length (fun i v => xs[i]? = some v) := fun H1 e R k =>
  h H1 e _ fun H2 e2 => ⟨a, rfl, ⟨xs, Evl.ex_t (e.trans e2) hx⟩, k _ H2 (fun H => SqT K H a xs) e2 (fun H3 e3 => Evl.ex_t ((e.trans e2).trans e3) hx) walk_tup⟩
theorem src_rng1 {ta : TA} {n : Nat} (h : EvA ta σ H [.int (n : Int)]) (hn : n ≤ 100000) : Src (iRng1 ta) σ H n (fun i v => v = .int (i : Int)) := fun H1 e R k =>
  h H1 e _ fun H2 e2 => ⟨n, rfl, by omega, by omega, by
    have z := k (Itr 0 n) H2 (fun _ => True) e2 (fun _ _ => trivial) (walk_range.mono (fun _ h => h) fun i H x H' _ _ y => ⟨y.1, by
      rw [y.2]
      show V.int (0 + (i : Int)) = _
      rw [Int.zero_add]⟩)
    exact z⟩
theorem src_keys {td : TE} {d : Addr} {o : Obj} {kvs : List (Key × V)} (h : Ev td σ H (.ref d)) (hd : H d = some (.frz o (.dK kvs))) : Src (iKeys td) σ H kvs.length (fun i v => ∃ k x, kvs[i]? = some (k, x) ∧ v = kV k) := fun H1 e R k =>
  h H1 e _ fun H2 e2 => ⟨d, o, rfl, .inl ⟨kvs, e2 _ _ (e _ _ hd), k _ H2 (fun H => H d = some (.frz o (.dK kvs))) e2 (fun H3 e3 => e3 _ _ (e2 _ _ (e _ _ hd))) (walk_keys.mono (fun _ h => h) fun i H x H' _ _ y => y)⟩⟩
/-- a list comprehension, by a word of what is made so far; D: the list that is made -/
theorem lcI {wi : TI} {g : TG} {tt : TT} {te : TE} {vs : List Nat} {n : Nat} {X : Nat → V → Prop} (s : Src wi σ H n X) (hn : n ≤ 50000) (st : Nat → V → L2.St) (hw : ∀ i x, wipe (st i x) vs = wipe σ vs) (I : Addr → Nat → List V → Hp → Prop)
    (hg : ∀ i x H1 Q, Ex H H1 → i < n → X i x → Q (st i x) H1 → g x (wipe σ vs) H1 Q) (f : Nat → Bool)
    (ht : ∀ i x H1, Ex H H1 → i < n → X i x → EvT tt (st i x) H1 (f i)) (P : Nat → VP)
    (he : ∀ i x H1, Ex H H1 → i < n → X i x → f i = true → EvP te (st i x) H1 (P i))
    (i0 : ∀ D H1, Ex H H1 → H1 D = none → I D 0 [] H1) (iE : ∀ D i ys Ha Hb, Ex Ha Hb → I D i ys Ha → I D i ys Hb) (iD : ∀ D i ys Ha xs, Ha D = some (.lst ys) → I D i ys Ha → I D i ys (upd Ha D (.lst xs)))
    (iY : ∀ D i ys v Ha Hb, Ex H Ha → Ex Ha Hb → Ha D = some (.lst ys) → i < n → f i = true → I D i ys Ha → P i v Ha Hb → ∀ xs, I D (i + 1) (ys ++ [v]) (upd Hb D (.lst xs))) (iN : ∀ D i ys Ha, Ex H Ha → i < n → f i = false → I D i ys Ha → I D (i + 1) ys Ha) :
    EvP (tLc wi g tt te vs) σ H (fun v H1 H2 => ∃ p ys, v = .ref p ∧ H1 p = none ∧ H2 p = some (.lst ys) ∧ ys.length ≤ n ∧ I p n ys H2) := fun H0 e0 Q q => by
  refine s H0 e0 _ fun J H1 G e1 hG hW D hD => ?_
  have iE0 : ∀ o, Ex H1 (upd H1 D o) := fun o => Ex.new hD
  refine lc_it hW (fun i H' => ∃ ys, Ex H1 H' ∧ I D i ys H' ∧ ys.length ≤ i ∧ H' D = some (.lst ys)) ⟨[], iE0 _, iE _ _ _ _ _ (iE0 _) (i0 D H1 (e0.trans e1) hD), Nat.le_refl _, upd_same⟩
    (fun i H' _ ⟨ys, a, _, _, _⟩ => hG _ a) (fun i x Ha Hb hi ⟨ys, a, hI, hl, c⟩ y => ?_) (fun H' ⟨ys, a, hI, hl, c⟩ => q (.ref D) H' (e1.trans a) ⟨D, ys, rfl, Evl.fresh_back e1 hD, c, hl, hI⟩)
  obtain ⟨rfl, hX⟩ := y
  have eA : Ex H Hb := (e0.trans e1).trans a
  refine hg i x Hb _ eA hi hX ⟨hw i x, ?_⟩
  refine ht i x Hb eA hi hX Hb (Ex.refl _) _ fun Hc ec => ?_
  cases hf : f i with
  | true =>
    refine iteT ?_
    refine he i x Hb eA hi hX hf Hc ec _ fun v Hd ed p => ?_
    refine ⟨ys, ed _ _ (ec _ _ c), Nat.lt_of_le_of_lt hl (Nat.lt_of_lt_of_le hi (Nat.le_trans hn (by decide))), ys ++ [v], ?_, ?_, ?_, upd_same⟩
    · exact Ex.mut ((a.trans ec).trans ed) hD
    · exact iY D i ys v Hc Hd (eA.trans ec) ed (ec _ _ c) hi hf (iE _ _ _ _ _ ec hI) p _
    · simp
      exact hl
  | false =>
    refine iteF ?_
    exact ⟨ys, a.trans ec, iN D i ys Hc (eA.trans ec) hi hf (iE _ _ _ _ _ ec hI), Nat.le_succ_of_le hl, ec _ _ c⟩
/-- values that are known: which turns give, and what -/
theorem lcV {wi : TI} {g : TG} {tt : TT} {te : TE} {vs : List Nat} {n : Nat} {X : Nat → V → Prop} (s : Src wi σ H n X) (hn : n ≤ 50000) (st : Nat → V → L2.St) (hw : ∀ i x, wipe (st i x) vs = wipe σ vs)
    (hg : ∀ i x H1 Q, Ex H H1 → i < n → X i x → Q (st i x) H1 → g x (wipe σ vs) H1 Q) (f : Nat → Bool) (v : Nat → V)
    (ht : ∀ i x H1, Ex H H1 → i < n → X i x → EvT tt (st i x) H1 (f i))
    (he : ∀ i x H1, Ex H H1 → i < n → X i x → f i = true → Ev te (st i x) H1 (v i)) :
    EvP (tLc wi g tt te vs) σ H (NewL (((List.range n).filter f).map v)) := by
  refine (lcI s hn st hw (fun _ i ys _ => ys = ((List.range i).filter f).map v) hg f ht (fun i => Is (v i)) (fun i x H1 e hi hX hf => evp_ev (he i x H1 e hi hX hf))
    (fun _ _ _ _ => rfl) (fun _ _ _ _ _ _ h => h) (fun _ _ _ _ _ _ h => h) (fun D i ys z Ha Hb _ _ _ hi hf h p xs => ?_) (fun D i ys Ha _ hi hf h => ?_)).imp ?_
  · cases p
    rw [List.range_succ, List.filter_append, List.map_append, List.filter_cons, if_pos hf, h]
    rfl
  · rw [List.range_succ, List.filter_append, List.map_append, List.filter_cons, if_neg (by rw [hf]; decide), h]
    exact (List.append_nil _).symm
  · rintro z H1 H2 _ _ ⟨p, ys, rfl, hp, k, _, h⟩
    exact ⟨p, rfl, hp, by rw [k, h]⟩
theorem yes_go {F : Bool → Hp → Prop} {σ : L2.St} {H : Hp} (h : F true H) : tYes σ H F := h
/-- a dict comprehension -/
theorem dcI {wi : TI} {g : TG} {tk tv : TE} {vs : List Nat} {n : Nat} {X : Nat → V → Prop} (s : Src wi σ H n X) (hn : n ≤ 50000) (st : Nat → V → L2.St) (hw : ∀ i x, wipe (st i x) vs = wipe σ vs) (I : Addr → Nat → List V → Hp → Prop)
    (hg : ∀ i x H1 Q, Ex H H1 → i < n → X i x → Q (st i x) H1 → g x (wipe σ vs) H1 Q) (kf : Nat → Key) (inj : ∀ i j, i < j → j < n → kf i ≠ kf j)
    (hk : ∀ i x H1, Ex H H1 → i < n → X i x → Ev tk (st i x) H1 (kV (kf i))) (P : Nat → VP)
    (he : ∀ i x H1, Ex H H1 → i < n → X i x → EvP tv (st i x) H1 (P i))
    (i0 : ∀ D H1, Ex H H1 → H1 D = none → I D 0 [] H1) (iE : ∀ D i ys Ha Hb, Ex Ha Hb → I D i ys Ha → I D i ys Hb)
    (iY : ∀ D i ys v Ha Hb kvs, Ex H Ha → Ex Ha Hb → Ha D = some (.dK kvs) → i < n → I D i ys Ha → P i v Ha Hb → ∀ xs, I D (i + 1) (ys ++ [v]) (upd Hb D (.dK xs))) :
    EvP (tDc wi g tYes tk tv vs) σ H (fun v H1 H2 => ∃ p ys, v = .ref p ∧ H1 p = none ∧ H2 p = some (.dK (((List.range n).map kf).zip ys)) ∧ ys.length = n ∧ I p n ys H2) := fun H0 e0 Q q => by
  refine s H0 e0 _ fun J H1 G e1 hG hW D hD => ?_
  have iE0 : ∀ o, Ex H1 (upd H1 D o) := fun o => Ex.new hD
  refine ⟨fun i m H' => m = n - i ∧ i ≤ n ∧ ∃ ys : List V, Ex H1 H' ∧ I D i ys H' ∧ ys.length = i ∧ H' D = some (.dK (((List.range i).map kf).zip ys)), ⟨n, by simp, Nat.zero_le _, [], iE0 _, iE _ _ _ _ _ (iE0 _) (i0 D H1 (e0.trans e1) hD), rfl, upd_same⟩, ?_⟩
  rintro i m Ha ⟨rfl, hin, ys, a, hI, hl, c⟩
  by_cases hi : i < n
  · refine .inr ⟨hW.goes i Ha hi (hG _ a), fun H' => ∃ ys : List V, Ex H1 H' ∧ I D (i + 1) ys H' ∧ ys.length = i + 1 ∧ H' D = some (.dK (((List.range (i + 1)).map kf).zip ys)), fun H' p' => ⟨n - (i + 1), by omega, rfl, hi, p'⟩, fun x Hb y => ?_⟩
    obtain ⟨rfl, hX⟩ := hW.yields i Ha x Hb hi (hG _ a) y
    have eA : Ex H Hb := (e0.trans e1).trans a
    refine hg i x Hb _ eA hi hX ⟨hw i x, yes_go ?_⟩
    dsimp only
    rw [if_pos rfl]
    refine hk i x Hb eA hi hX Hb (Ex.refl _) _ fun Hc ec => ?_
    refine he i x Hb eA hi hX Hc ec _ fun v Hd ed p => ?_
    have nk : valV (((List.range i).map kf).zip ys) (kf i) = none := by
      cases e : valV (((List.range i).map kf).zip ys) (kf i) with
      | none => rfl
      | some z =>
        have m := valV_in e
        obtain ⟨pr, hpr, e2⟩ := List.mem_map.mp m
        have m2 := (List.of_mem_zip (a := pr.1) (b := pr.2) hpr).1
        obtain ⟨j, hj, e3⟩ := List.mem_map.mp m2
        exact absurd (e3.trans e2) (inj j i (List.mem_range.mp hj) hi)
    refine ⟨_, kf i, rfl, ed _ _ (ec _ _ c), ?_, ys ++ [v], ?_, ?_, ?_, ?_⟩
    · rw [List.length_zip, List.length_map, List.length_range, hl, Nat.min_self]
      exact Nat.lt_of_lt_of_le hi (Nat.le_trans hn (by decide))
    · exact Ex.mut ((a.trans ec).trans ed) hD
    · exact iY D i ys v Hc Hd _ (eA.trans ec) ed (ec _ _ c) hi (iE _ _ _ _ _ ec hI) p _
    · simp [hl]
    · rw [upd_same, putK_new v nk, List.range_succ, List.map_append, List.zip_append (by simp [hl])]
      rfl
  · have e : i = n := by omega
    subst e
    exact .inl ⟨hW.stops Ha (hG _ a), q (.ref D) Ha (e1.trans a) ⟨D, ys, rfl, Evl.fresh_back e1 hD, c, hl, hI⟩⟩
/-- over a dict that stands: locked meanwhile -/
theorem evp_lock {t : TE} {d : Addr} {u : HO} {P P' : VP} (hd : H d = some u) (hm : Mut (some u)) (h : ∀ Ha od, Ex H Ha → EvP t σ (upd Ha d (.frz od u)) P)
    (hP : ∀ v Ha H2 od, Ex H Ha → Ex (upd Ha d (.frz od u)) H2 → P v (upd Ha d (.frz od u)) H2 → P' v Ha (upd H2 d u)) : EvP (tLockE t) σ H P' := fun H1 e1 Q q =>
  ⟨d, u, e1 _ _ hd, hm, fun od => h H1 od e1 _ (Ex.refl _) _ fun v H2 e2 p => ⟨e2 _ _ upd_same, q v _ (fun b o hb => by
    by_cases e : b = d
    · subst e
      rw [e1 _ _ hd] at hb
      cases hb
      exact upd_same
    · rw [upd_ne e]
      exact e2 b o (by rw [upd_ne e]; exact hb)) (hP v H1 H2 od e1 e2 p)⟩⟩
end
end Ep
set_option Elab.async false
set_option linter.all false
set_option maxRecDepth 100000
set_option maxHeartbeats 4000000
/-! promises of the program's defs, whatever text they stand in -/
namespace Pr
open PySem PySem.Spec PyProof.Rows L2 TM
open Evl (Ex)
abbrev vI (n : Nat) : V := .int (n : Int)
abbrev vIs (l : List Nat) : List V := l.map vI
theorem vIs_int (l : List Nat) : vIs l = (l.map fun (n : Nat) => (n : Int)).map V.int := by
  rw [List.map_map]
  rfl
theorem szN {n : Nat} (h : n ≤ 100000) : n < sizeLine := Nat.lt_of_le_of_lt h (by decide)
theorem szL {n : Nat} (h : n ≤ 100000) : n ≤ sizeLine := Nat.le_trans h (by decide)
/-- lanes: a list of pairs -/
def PairAt (H : Hp) (v : V) (p : Nat × Nat) : Prop := ∃ t, v = .ref t ∧ H t = some (.tup [vI p.1, vI p.2])
def LanesAt (H : Hp) (a : Addr) (L : Lanes) : Prop := ∃ vs, H a = some (.lst vs) ∧ Paired (PairAt H) vs L
theorem PairAt.ex {H H' : Hp} {v : V} {p : Nat × Nat} (e : Ex H H') (h : PairAt H v p) : PairAt H' v p := by
  obtain ⟨t, r, k⟩ := h
  exact ⟨t, r, e _ _ k⟩
theorem paired_imp {α β : Type} {R S : α → β → Prop} (k : ∀ a b, R a b → S a b) : ∀ {xs : List α} {ys : List β}, Paired R xs ys → Paired S xs ys
  | _, _, .nil => .nil
  | _, _, .cons h t => .cons (k _ _ h) (paired_imp k t)
theorem paired_ix {α β : Type} {R : α → β → Prop} : ∀ {xs : List α} {ys : List β} {i : Nat} {x : α}, Paired R xs ys → xs[i]? = some x → ∃ y, ys[i]? = some y ∧ R x y
  | _, _, _, _, .nil, e => by simp at e
  | _, _, 0, _, .cons r _, e => by simp at e; subst e; exact ⟨_, rfl, r⟩
  | _, _, i + 1, x, .cons _ t, e => by
    obtain ⟨u, h1, h2⟩ := paired_ix (i := i) (x := x) t (by simpa using e)
    exact ⟨u, by simpa using h1, h2⟩
theorem LanesAt.ex {H H' : Hp} {a : Addr} {L : Lanes} (e : Ex H H') (h : LanesAt H a L) : LanesAt H' a L := by
  obtain ⟨vs, r, k⟩ := h
  exact ⟨vs, e _ _ r, paired_imp (fun _ _ z => z.ex e) k⟩
theorem take_more {α : Type} : ∀ {l : List α} {i : Nat} {x : α}, l[i]? = some x → l.take (i + 1) = l.take i ++ [x]
  | [], i, x, h => by simp at h
  | a :: l, 0, x, h => by
    have e : a = x := Option.some.inj h
    subst e
    rfl
  | a :: l, i + 1, x, h => by
    have ih := take_more (l := l) (i := i) (x := x) h
    show a :: l.take (i + 1) = a :: l.take i ++ [x]
    rw [ih]
    rfl
/-- is_count of an int -/
def spCount : Sp := fun vs H Q _ => ∃ i : Int, vs = [.int i] ∧ Q (.bl (decide (0 ≤ i))) H
/-- is_row of a list or tuple -/
def spRow (K : PySem.W.Frag) : Sp := fun vs H Q _ => ∃ a xs, vs = [.ref a] ∧ (H a = some (.lst xs) ∨ H a = some (.tup xs)) ∧ ∀ H', Ex H H' → Q (.bl true) H'
theorem kit_int (K : PySem.W.Frag) : PySem.W.kitOne K (.type "int") (.type "int") = some true := by rfl
end Pr
namespace Pr
open PySem PySem.Spec PyProof.Rows L2 TM
open Evl (Ex)
abbrev keyN (i : Nat) : Key := Sum.inl (i : Int)
def keysN (m : Nat) : List Key := (List.range m).map keyN
theorem find_zip {κ : Type} [DecidableEq κ] : ∀ (ks : List κ) (ys : List V) (i : Nat) (k : κ), ks.Nodup → ks.length = ys.length → ks[i]? = some k → valV (ks.zip ys) k = ys[i]?
  | [], ys, i, k, _, _, h => by simp at h
  | a :: ks, [], i, k, _, h, _ => by simp at h
  | a :: ks, y :: ys, 0, k, nd, hl, h => by
    have e : a = k := Option.some.inj h
    subst e
    exact valV_pos rfl
  | a :: ks, y :: ys, i + 1, k, nd, hl, h => by
    have h' : ks[i]? = some k := by simpa using h
    obtain ⟨n1, n2⟩ := List.nodup_cons.mp nd
    have ne : ¬ a = k := fun e => n1 (e ▸ List.mem_of_getElem? h')
    show valV ((a, y) :: ks.zip ys) k = ys[i]?
    rw [valV_neg ne]
    exact find_zip ks ys i k n2 (by simpa using hl) h'
theorem keysN_nodup (m : Nat) : (keysN m).Nodup := by
  unfold keysN
  refine List.pairwise_map.mpr ?_
  exact List.nodup_range.imp fun h e => h (by injection e with e; omega)
theorem keysN_at {m i : Nat} (h : i < m) : (keysN m)[i]? = some (keyN i) := by
  unfold keysN
  rw [List.getElem?_map, List.getElem?_range h]
  rfl
theorem keysN_length (m : Nat) : (keysN m).length = m := by simp [keysN]
theorem valV_keysN {m : Nat} {ys : List V} (hl : ys.length = m) {i : Nat} (h : i < m) : valV ((keysN m).zip ys) (keyN i) = ys[i]? :=
  find_zip _ _ i _ (keysN_nodup m) (by rw [keysN_length, hl]) (keysN_at h)
/-- rows by places: a dict of lists -/
structure RowsAt (H : Hp) (m : Nat) (rs : List Addr) (row : Nat → List Nat) : Prop where
  len : rs.length = m
  at_ : ∀ i r, rs[i]? = some r → H r = some (.lst (vIs (row i)))
def dkOf (m : Nat) (rs : List Addr) : HO := .dK ((keysN m).zip (rs.map V.ref))
def AroundAt (H : Hp) (d : Addr) (m : Nat) (row : Nat → List Nat) : Prop := ∃ rs, H d = some (dkOf m rs) ∧ RowsAt H m rs row
def AroundR (H : Hp) (d : Addr) (m : Nat) (row : Nat → List Nat) : Prop := ∃ rs, Rd H d (dkOf m rs) ∧ RowsAt H m rs row
theorem AroundAt.r {H : Hp} {d : Addr} {m : Nat} {row : Nat → List Nat} (h : AroundAt H d m row) : AroundR H d m row := by
  obtain ⟨rs, a, b⟩ := h
  exact ⟨rs, .inl a, b⟩
theorem RowsAt.ex {H H' : Hp} {m : Nat} {rs : List Addr} {row : Nat → List Nat} (e : Ex H H') (h : RowsAt H m rs row) : RowsAt H' m rs row := ⟨h.len, fun i r k => e _ _ (h.at_ i r k)⟩
theorem AroundAt.ex {H H' : Hp} {d : Addr} {m : Nat} {row : Nat → List Nat} (e : Ex H H') (h : AroundAt H d m row) : AroundAt H' d m row := by
  obtain ⟨rs, a, b⟩ := h
  exact ⟨rs, e _ _ a, b.ex e⟩
theorem RowsAt.get {H : Hp} {m : Nat} {rs : List Addr} {row : Nat → List Nat} (h : RowsAt H m rs row) {i : Nat} (hi : i < m) : ∃ r, rs[i]? = some r ∧ H r = some (.lst (vIs (row i))) ∧ valV ((keysN m).zip (rs.map V.ref)) (keyN i) = some (.ref r) := by
  have hl : i < rs.length := by rw [h.len]; exact hi
  refine ⟨rs[i], List.getElem?_eq_getElem hl, h.at_ i _ (List.getElem?_eq_getElem hl), ?_⟩
  rw [valV_keysN (by rw [List.length_map, h.len]) hi, List.getElem?_map, List.getElem?_eq_getElem hl]
  rfl
theorem RowsAt.lock {H : Hp} {m : Nat} {rs : List Addr} {row : Nat → List Nat} {d : Addr} (h : RowsAt H m rs row) (hd : H d = some (dkOf m rs)) (od : Obj) : RowsAt (upd H d (.frz od (dkOf m rs))) m rs row := ⟨h.len, fun i r k => by
  have z := h.at_ i r k
  rw [upd_ne (ne_of z hd (fun q => nomatch q))]
  exact z⟩
/-- an append to a row -/
theorem RowsAt.app {H : Hp} {m : Nat} {rs : List Addr} {row : Nat → List Nat} (h : RowsAt H m rs row) (nd : rs.Nodup) {i x : Nat} {r : Addr} (hr : rs[i]? = some r) : RowsAt (upd H r (.lst (vIs (row i) ++ [vI x]))) m rs (fun j => row j ++ if i = j then [x] else []) := ⟨h.len, fun j q k => by
  by_cases e : i = j
  · subst e
    have : q = r := Option.some.inj (k.symm.trans hr)
    subst this
    rw [upd_same, if_pos rfl]
    simp [vIs]
  · have nq : q ≠ r := fun z => e (nodup_ix nd hr (z ▸ k))
    rw [upd_ne nq, if_neg e, List.append_nil]
    exact h.at_ j q k⟩
theorem RowsAt.congr {H : Hp} {m : Nat} {rs : List Addr} {row row' : Nat → List Nat} (h : RowsAt H m rs row) (e : ∀ i, i < m → row i = row' i) : RowsAt H m rs row' := ⟨h.len, fun i r k => by
  have hi := (List.getElem?_eq_some_iff.mp k).1
  rw [← e i (by rw [← h.len]; exact hi)]
  exact h.at_ i r k⟩
def spNeigh : Sp := fun vs H Q _ => ∃ a L, vs = [.ref a] ∧ LanesAt H a L ∧ (∀ p ∈ L, p.1 ≤ L.length ∧ p.2 ≤ L.length) ∧ L.length ≤ 1000 ∧
  ∀ p H', Ex H H' → H p = none → AroundAt H' p (L.length + 1) (adj L) → Q (.ref p) H'
def spPair : Sp := fun vs H Q _ => ∃ (t : Addr) (p : Nat × Nat) (last : Nat), vs = [.ref t, vI last] ∧ H t = some (.tup [vI p.1, vI p.2]) ∧ ∀ H', Ex H H' → Q (.bl (decide (p.1 ≤ last) && decide (p.2 ≤ last))) H'
def spAhead : Sp := fun vs H Q _ => ∃ L d goal vt, vs = [.ref d, vI goal] ∧ Tr vt L ∧ AroundR H d (L.length + 1) (adj L) ∧ goal ∈ vt ∧ (∀ v ∈ vt, v < L.length + 1) ∧ L.length ≤ 1000 ∧
  ∀ p H' kvs, Ex H H' → H p = none → Ahead L goal kvs → H' p = some (.dK (kvs.map fun q => (keyN q.1, vI q.2))) → Q (.ref p) H'
theorem nbP_len : ∀ (L : Lanes) (i : Nat), (nbP L i).length ≤ 2 * L.length
  | [], _ => by simp [nbP]
  | (a, b) :: L, i => by
    have ih := nbP_len L i
    unfold nbP
    rw [List.length_append, List.length_append, List.length_cons]
    split <;> split <;> simp <;> omega
def spYards : Sp := fun vs H Q _ => ∃ L d, vs = [.ref d] ∧ AroundAt H d (L.length + 1) (adj L) ∧ L.length ≤ 1000 ∧ ∀ p H', Ex H H' → H p = none → H' p = some (.lst (vIs (yardsL L))) → Q (.ref p) H'
def spLanes : Sp := fun vs H Q _ => ∃ L a vt, vs = [.ref a] ∧ LanesAt H a L ∧ Good vt L ∧ ∀ H', Ex H H' → Q (.bl true) H'
/-- a Country stands at p -/
def fl (l d e y g : Addr) : List (Str × V) := [("_lanes", .ref l), ("_around", .ref d), ("_ahead", .ref e), ("_yards", .ref y), ("_gates", .ref g)]
structure CPart (H : Hp) (L : Lanes) (l d e y g : Addr) (rs qs : List Addr) : Prop where
  l_ : ∃ M, LanesAt H l M ∧ M.Perm (norm L) ∧ LexS M
  d_ : H d = some (dkOf (L.length + 1) rs)
  r_ : RowsAt H (L.length + 1) rs (adj L)
  e_ : H e = some (dkOf (L.length + 1) qs)
  ql : qs.length = L.length + 1
  q_ : ∀ (i : Nat) (q : Addr), qs[i]? = some q → ∃ kvs, Ahead L i kvs ∧ H q = some (.dK (kvs.map fun q => (keyN q.1, vI q.2)))
  y_ : H y = some (.lst (vIs (yardsL L)))
  g_ : H g = some (.lst (vIs (gatesL L)))
def CAt (C : Addr) (H : Hp) (p : Addr) (L : Lanes) : Prop := ∃ dx l d e y g rs qs, H p = some (.ins C dx (fl l d e y g)) ∧ CPart H L l d e y g rs qs
theorem CPart.ex {H H' : Hp} {L : Lanes} {l d e y g : Addr} {rs qs : List Addr} (x : Ex H H') (h : CPart H L l d e y g rs qs) : CPart H' L l d e y g rs qs where
  l_ := by
    obtain ⟨M, a, b⟩ := h.l_
    exact ⟨M, a.ex x, b⟩
  d_ := x _ _ h.d_
  r_ := h.r_.ex x
  e_ := x _ _ h.e_
  ql := h.ql
  q_ := fun i q k => by
    obtain ⟨kvs, a, b⟩ := h.q_ i q k
    exact ⟨kvs, a, x _ _ b⟩
  y_ := x _ _ h.y_
  g_ := x _ _ h.g_
theorem CAt.ex {C : Addr} {H H' : Hp} {p : Addr} {L : Lanes} (x : Ex H H') (h : CAt C H p L) : CAt C H' p L := by
  obtain ⟨dx, l, d, e, y, g, rs, qs, a, b⟩ := h
  exact ⟨dx, l, d, e, y, g, rs, qs, x _ _ a, b.ex x⟩
def spInit (C : Addr) : Sp := fun vs H Q _ => ∃ L p dx a vt, vs = [.ref p, .ref a] ∧ H p = some (.ins C dx []) ∧ LanesAt H a L ∧ Good vt L ∧ ∀ H', (∀ b o, H b = some o → b ≠ p → H' b = some o) → CAt C H' p L → Q .non H'
theorem fl_l {l d e y g : Addr} : (fl l d e y g).lookup ("_lanes" : Str) = some (.ref l) := by rfl
theorem fl_d {l d e y g : Addr} : (fl l d e y g).lookup ("_around" : Str) = some (.ref d) := by rfl
theorem fl_e {l d e y g : Addr} : (fl l d e y g).lookup ("_ahead" : Str) = some (.ref e) := by rfl
theorem fl_y {l d e y g : Addr} : (fl l d e y g).lookup ("_yards" : Str) = some (.ref y) := by rfl
theorem fl_g {l d e y g : Addr} : (fl l d e y g).lookup ("_gates" : Str) = some (.ref g) := by rfl
theorem fl_no {l d e y g : Addr} {x : Str} (h : ([("_lanes", ()), ("_around", ()), ("_ahead", ()), ("_yards", ()), ("_gates", ())] : List (Str × Unit)).lookup x = none) : (fl l d e y g).lookup x = none := by
  have f : ∀ (ks : List Str) (vs : List V), ks.length = vs.length → (ks.map fun k => (k, ())).lookup x = none → (ks.zip vs).lookup x = none := by
    intro ks
    induction ks with
    | nil => intro vs _ _; rfl
    | cons k ks ih =>
      intro vs hl hn
      cases vs with
      | nil => cases hl
      | cons v vs =>
        show List.lookup x ((k, v) :: ks.zip vs) = none
        have hn : List.lookup x ((k, ()) :: ks.map fun k => (k, ())) = none := hn
        rw [List.lookup_cons] at hn ⊢
        cases e : (x == k) with
        | true => rw [e] at hn; cases hn
        | false => rw [e] at hn; exact ih vs (by simpa using hl) hn
  exact f ["_lanes", "_around", "_ahead", "_yards", "_gates"] [.ref l, .ref d, .ref e, .ref y, .ref g] rfl h
/-- all but instances stay -/
def Ki (H H' : Hp) : Prop := ∀ b o, H b = some o → (∀ C dx fs, o ≠ HO.ins C dx fs) → H' b = some o
theorem Ki.of {H H' : Hp} (e : Ex H H') : Ki H H' := fun b o h _ => e b o h
theorem Ki.trans {H H1 H2 : Hp} (a : Ki H H1) (b : Ki H1 H2) : Ki H H2 := fun c o h n => b c o (a c o h n) n
theorem Ki.put {H : Hp} {p C dx : Addr} {fs fs' : List (Str × V)} (h : H p = some (.ins C dx fs)) : Ki H (upd H p (.ins C dx fs')) := fun b o hb n => by
  rw [upd_ne (ne_of hb h (n _ _ _))]
  exact hb
theorem LanesAt.ki {H H' : Hp} {a : Addr} {L : Lanes} (e : Ki H H') (h : LanesAt H a L) : LanesAt H' a L := by
  obtain ⟨vs, r, k⟩ := h
  exact ⟨vs, e _ _ r (fun _ _ _ z => nomatch z), paired_imp (fun _ _ ⟨t, q, z⟩ => ⟨t, q, e _ _ z (fun _ _ _ z => nomatch z)⟩) k⟩
theorem RowsAt.ki {H H' : Hp} {m : Nat} {rs : List Addr} {row : Nat → List Nat} (e : Ki H H') (h : RowsAt H m rs row) : RowsAt H' m rs row := ⟨h.len, fun i r k => e _ _ (h.at_ i r k) (fun _ _ _ z => nomatch z)⟩
theorem dkOf_ni {m : Nat} {rs : List Addr} : ∀ C dx fs, dkOf m rs ≠ HO.ins C dx fs := fun _ _ _ z => nomatch z
theorem lst_ni {xs : List V} : ∀ C dx fs, HO.lst xs ≠ HO.ins C dx fs := fun _ _ _ z => nomatch z
theorem dK_ni {xs : List (Key × V)} : ∀ C dx fs, HO.dK xs ≠ HO.ins C dx fs := fun _ _ _ z => nomatch z
abbrev g1 (l : V) : List (Str × V) := [("_lanes", l)]
abbrev g2 (l d : V) : List (Str × V) := [("_lanes", l), ("_around", d)]
abbrev g3 (l d e : V) : List (Str × V) := [("_lanes", l), ("_around", d), ("_ahead", e)]
abbrev g4 (l d e y : V) : List (Str × V) := [("_lanes", l), ("_around", d), ("_ahead", e), ("_yards", y)]
abbrev g5 (l d e y z : V) : List (Str × V) := [("_lanes", l), ("_around", d), ("_ahead", e), ("_yards", y), ("_gates", z)]
theorem pf1 {v : V} : putF "_lanes" v [] = g1 v := by rfl
theorem pf2 {l v : V} : putF "_around" v (g1 l) = g2 l v := by rfl
theorem pf3 {l d v : V} : putF "_ahead" v (g2 l d) = g3 l d v := by rfl
theorem pf4 {l d e v : V} : putF "_yards" v (g3 l d e) = g4 l d e v := by rfl
theorem pf5 {l d e y v : V} : putF "_gates" v (g4 l d e y) = g5 l d e y v := by rfl
/-! what is asked of a country -/
def spGet (C : Addr) (R : Hp → Lanes → Addr → Prop) : Sp := fun vs H Q _ => ∃ L p, vs = [.ref p] ∧ CAt C H p L ∧ ∀ q H', Ex H H' → H q = none → R H' L q → Q (.ref q) H'
def rLanesG (H' : Hp) (L : Lanes) (q : Addr) : Prop := ∃ M, LanesAt H' q M ∧ M.Perm (norm L) ∧ LexS M
def rYardsG (H' : Hp) (L : Lanes) (q : Addr) : Prop := H' q = some (.lst (vIs (yardsL L)))
def rGatesG (H' : Hp) (L : Lanes) (q : Addr) : Prop := H' q = some (.lst (vIs (gatesL L)))
def spPlace (C : Addr) : Sp := fun vs H Q _ => ∃ L p i, vs = [.ref p, vI i] ∧ CAt C H p L ∧ ∀ H', Ex H H' → Q (.bl (decide (i < L.length + 1))) H'
def spYard (C : Addr) : Sp := fun vs H Q _ => ∃ L p i, vs = [.ref p, vI i] ∧ CAt C H p L ∧ ∀ H', Ex H H' → Q (.bl (decide (i ∈ yardsL L))) H'
def spNbs (C : Addr) : Sp := fun vs H Q _ => ∃ L p i, vs = [.ref p, vI i] ∧ CAt C H p L ∧ i < L.length + 1 ∧ ∀ q H', Ex H H' → H q = none → H' q = some (.lst (vIs (adj L i))) → Q (.ref q) H'
def spIsNb (C : Addr) : Sp := fun vs H Q _ => ∃ L p i j, vs = [.ref p, vI i, vI j] ∧ CAt C H p L ∧ i < L.length + 1 ∧ ∀ H', Ex H H' → Q (.bl (decide (j ∈ adj L i))) H'
def spNext (C : Addr) : Sp := fun vs H Q _ => ∃ L vt p i goal, vs = [.ref p, vI i, vI goal] ∧ CAt C H p L ∧ Good vt L ∧ i ≠ goal ∧ i < L.length + 1 ∧ goal < L.length + 1 ∧ ∀ h r, Path L i goal (i :: h :: r) → Q (vI h) H
def spCheckC (C : Addr) : Sp := fun vs H Q _ => ∃ L p, vs = [.ref p] ∧ CAt C H p L ∧ ∀ H', Ex H H' → Q .non H'
def spCheckY (C : Addr) : Sp := fun vs H Q _ => ∃ L p i, vs = [.ref p, vI i] ∧ CAt C H p L ∧ i ∈ yardsL L ∧ ∀ H', Ex H H' → Q .non H'
def spCheckT (C : Addr) : Sp := fun vs H Q _ => ∃ L p i j, vs = [.ref p, vI i, vI j] ∧ CAt C H p L ∧ i < L.length + 1 ∧ j ∈ adj L i ∧ ∀ H', Ex H H' → Q .non H'
def spBehind (C : Addr) : Sp := fun vs H Q _ => ∃ L vt N p y t, vs = [.ref p, vI y, vI t] ∧ CAt C H p L ∧ Good vt L ∧ IsNext vt L N ∧ y ∈ yardsL L ∧ t ∈ adj L y ∧
  ∀ q H', Ex H H' → H q = none → H' q = some (.lst (vIs ((yardsL L).filter (beh N y t)))) → Q (.ref q) H'
theorem inV_vIs : ∀ (l : List Nat) (i : Nat), inV (vI i) (vIs l) = decide (i ∈ l)
  | [], i => rfl
  | a :: l, i => by
    have ih := inV_vIs l i
    have e : inV (vI i) (vIs (a :: l)) = (((a : Int) == (i : Int)) || inV (vI i) (vIs l)) := by rfl
    rw [e, ih]
    by_cases h : a = i
    · subst h
      simp
    · have : ((a : Int) == (i : Int)) = false := by
        rw [beq_eq_false_iff_ne]
        omega
      have h2 : ¬ i = a := fun z => h z.symm
      simp [this, h2]
theorem flat_vIs (l : List Nat) : (vIs l).all flatV = true := by
  rw [List.all_eq_true]
  intro x hx
  obtain ⟨_, _, e⟩ := List.mem_map.mp hx
  rw [← e]
  rfl
open Evl (Ev EvT) in
open Ep in
/-- [g u for u in l if f u] over places that stand in a list -/
theorem lcF {wi : TI} {g : TG} {tt : TT} {te : TE} {vs : List Nat} {σ : L2.St} {H : Hp} {l : List Nat} (s : Src wi σ H (vIs l).length (fun i v => (vIs l)[i]? = some v)) (hn : l.length ≤ 50000) (st : V → L2.St) (hw : ∀ x, wipe (st x) vs = wipe σ vs)
    (hg : ∀ x H1 Q, Ex H H1 → Q (st x) H1 → g x (wipe σ vs) H1 Q) (f : Nat → Bool) (v : Nat → V)
    (ht : ∀ u H1, u ∈ l → Ex H H1 → EvT tt (st (vI u)) H1 (f u)) (he : ∀ u H1, u ∈ l → Ex H H1 → f u = true → Ev te (st (vI u)) H1 (v u)) :
    EvP (tLc wi g tt te vs) σ H (NewL ((l.filter f).map v)) := by
  have at_ : ∀ {i : Nat} {x : V}, i < (vIs l).length → (vIs l)[i]? = some x → x = vI (l.getD i 0) ∧ l.getD i 0 ∈ l := fun {i x} hi hx => by
    have hi2 : i < l.length := by rw [List.length_map] at hi; exact hi
    rw [List.getElem?_map, List.getElem?_eq_getElem hi2] at hx
    rw [List.getD_eq_getElem?_getD, List.getElem?_eq_getElem hi2]
    exact ⟨(Option.some.inj hx).symm, List.getElem_mem hi2⟩
  refine EvP.imp (P := NewL (((List.range (vIs l).length).filter fun i => f (l.getD i 0)).map fun i => v (l.getD i 0))) (lcV s (by rw [List.length_map]; exact hn) (fun _ x => st x) (fun _ x => hw x) (fun _ x H1 Q e _ _ q => hg x H1 Q e q) (fun i => f (l.getD i 0)) (fun i => v (l.getD i 0)) (fun i x H1 e hi hx => ?_) (fun i x H1 e hi hx hf => ?_)) (fun z Ha Hb _ _ h => ?_)
  · obtain ⟨ex, m⟩ := at_ hi hx
    subst ex
    exact ht _ H1 m e
  · obtain ⟨ex, m⟩ := at_ hi hx
    subst ex
    exact he _ H1 m e hf
  · obtain ⟨q, rfl, hq, h⟩ := h
    refine ⟨q, rfl, hq, ?_⟩
    rw [h, List.length_map]
    have e : l = (List.range l.length).map fun i => l.getD i 0 := by
      refine List.ext_getElem (by simp) fun i h1 h2 => ?_
      rw [List.getElem_map, List.getElem_range, List.getD_eq_getElem?_getD, List.getElem?_eq_getElem h1]
      rfl
    conv => rhs; rw [e, List.filter_map]
    rw [List.map_map]
    rfl
/-! ### what a law draws -/
def PotAt (H : Hp) (p : Addr) : Prop := ∃ a b : Int, H p = some (.lst [.int a, .int b]) ∧ 0 ≤ a ∧ 0 ≤ b ∧ b < 4294967296
/-- all but p stays -/
def ExB (p : Addr) (H H' : Hp) : Prop := ∀ b o, H b = some o → b ≠ p → H' b = some o
theorem ExB.of {p : Addr} {H H' : Hp} (e : Ex H H') : ExB p H H' := fun b o h _ => e b o h
theorem ExB.trans {p : Addr} {H H1 H2 : Hp} (a : ExB p H H1) (b : ExB p H1 H2) : ExB p H H2 := fun c o h n => b c o (a c o h n) n
theorem ExB.put {p : Addr} {H : Hp} {o : HO} : ExB p H (upd H p o) := fun b u h n => by rw [upd_ne n]; exact h
theorem ExB.free {p q : Addr} {H H' : Hp} (e : ExB p H H') (h : H' q = none) (n : q ≠ p) : H q = none := by
  cases k : H q with
  | none => rfl
  | some o => rw [e q o k n] at h; cases h
def spPot (K : PySem.W.Frag) : Sp := fun vs H Q _ => ∃ (a : Addr) (ns : List Int) (k : Nat), vs = [.ref a, vI k] ∧ SqL K H a (ns.map V.int) ∧ k ≤ 1000 ∧ ∀ p H', Ex H H' → H p = none → PotAt H' p → Q (.ref p) H'
def spDraw : Sp := fun vs H Q _ => ∃ p m, vs = [.ref p, vI m] ∧ PotAt H p ∧ 0 < m ∧ m ≤ 2000 ∧ ∀ d H', d < m → PotAt H' p → ExB p H H' → Q (vI d) H'
def spPick : Sp := fun vs H Q _ => ∃ p a l, vs = [.ref p, .ref a] ∧ PotAt H p ∧ H a = some (.lst (vIs l)) ∧ a ≠ p ∧ 0 < l.length ∧ l.length ≤ 2000 ∧ ∀ x H', x ∈ l → PotAt H' p → ExB p H H' → Q (vI x) H'
def spBeside : Sp := fun vs H Q _ => ∃ L a i, vs = [.ref a, vI i] ∧ LanesAt H a L ∧ L.length ≤ 1000 ∧ ∀ p H', Ex H H' → H p = none → H' p = some (.lst (vIs (adj L i))) → Q (.ref p) H'
def spYardsOf : Sp := fun vs H Q _ => ∃ L a, vs = [.ref a] ∧ LanesAt H a L ∧ L.length ≤ 1000 ∧ ∀ p H', Ex H H' → H p = none → H' p = some (.lst (vIs (yardsL L))) → Q (.ref p) H'
theorem PotAt.exB {p q : Addr} {H H' : Hp} (e : ExB q H H') (n : p ≠ q) (h : PotAt H p) : PotAt H' p := by
  obtain ⟨a, b, h, r⟩ := h
  exact ⟨a, b, e _ _ h n, r⟩
theorem PotAt.ex {p : Addr} {H H' : Hp} (e : Ex H H') (h : PotAt H p) : PotAt H' p := by
  obtain ⟨a, b, h, r⟩ := h
  exact ⟨a, b, e _ _ h, r⟩
theorem PotAt.ne {p q : Addr} {H : Hp} {o : HO} (h : PotAt H p) (hq : H q = some o) (n : ∀ a b : Int, o ≠ .lst [.int a, .int b]) : q ≠ p := by
  obtain ⟨a, b, h, r⟩ := h
  exact ne_of hq h (n a b)
open Evl (Ev EvT) in
open Ep in
/-- [v q for a, b in lanes if f q] -/
theorem lcL {wi : TI} {g : TG} {tt : TT} {te : TE} {vs : List Nat} {σ : L2.St} {H : Hp} {ls : List V} {L : Lanes} (s : Src wi σ H ls.length (fun i v => ls[i]? = some v)) (hp : Paired (PairAt H) ls L) (hn : L.length ≤ 50000) (st : Nat × Nat → L2.St) (hw : ∀ q, wipe (st q) vs = wipe σ vs)
    (hg : ∀ q t H1 Q, Ex H H1 → H1 t = some (.tup [vI q.1, vI q.2]) → Q (st q) H1 → g (.ref t) (wipe σ vs) H1 Q) (f : Nat × Nat → Bool) (v : Nat × Nat → V)
    (ht : ∀ q H1, q ∈ L → Ex H H1 → EvT tt (st q) H1 (f q)) (he : ∀ q H1, q ∈ L → Ex H H1 → f q = true → Ev te (st q) H1 (v q)) :
    EvP (tLc wi g tt te vs) σ H (NewL ((L.filter f).map v)) := by
  have hll : ls.length = L.length := PySem.Paired.length hp
  have at_ : ∀ {i : Nat} {x : V}, ls[i]? = some x → ∃ t, x = .ref t ∧ H t = some (.tup [vI (L.getD i (0, 0)).1, vI (L.getD i (0, 0)).2]) ∧ L.getD i (0, 0) ∈ L := fun {i x} hx => by
    obtain ⟨q, hq, t, r, k⟩ := paired_ix hp hx
    have : L.getD i (0, 0) = q := by rw [List.getD_eq_getElem?_getD, hq]; rfl
    exact ⟨t, r, this ▸ k, this ▸ List.mem_of_getElem? hq⟩
  refine EvP.imp (P := NewL (((List.range ls.length).filter fun i => f (L.getD i (0, 0))).map fun i => v (L.getD i (0, 0)))) (lcV s (by omega) (fun i _ => st (L.getD i (0, 0))) (fun _ _ => hw _) (fun i x H1 Q e _ hx q => ?_) (fun i => f (L.getD i (0, 0))) (fun i => v (L.getD i (0, 0))) (fun i x H1 e _ hx => ?_) (fun i x H1 e _ hx hf => ?_)) (fun z Ha Hb _ _ h => ?_)
  · obtain ⟨t, rfl, k, _⟩ := at_ hx
    exact hg _ t H1 Q e (e _ _ k) q
  · obtain ⟨t, rfl, k, m⟩ := at_ hx
    exact ht _ H1 m e
  · obtain ⟨t, rfl, k, m⟩ := at_ hx
    exact he _ H1 m e hf
  · obtain ⟨q, rfl, hq, h⟩ := h
    refine ⟨q, rfl, hq, ?_⟩
    rw [h, hll]
    have e : L = (List.range L.length).map fun i => L.getD i (0, 0) := by
      refine List.ext_getElem (by simp) fun i h1 h2 => ?_
      rw [List.getElem_map, List.getElem_range, List.getD_eq_getElem?_getD, List.getElem?_eq_getElem h1]
      rfl
    conv => rhs; rw [e, List.filter_map]
    rw [List.map_map]
    rfl
theorem go_tup {K : PySem.W.Frag} {i j : Nat} {σ : L2.St} {H1 : Hp} {t : Addr} {q : Nat × Nat} {Q : L2.St → Hp → Prop} (h : H1 t = some (.tup [vI q.1, vI q.2])) (k : Q ((σ.set i (some (vI q.1))).set j (some (vI q.2))) H1) : gTup K 2 (gCons (gName i) (gCons (gName j) gNil)) (.ref t) σ H1 Q :=
  ⟨t, _, rfl, Evl.st_of h, rfl, _, _, rfl, _, _, rfl, rfl, k⟩
end Pr

set_option Elab.async false
set_option linter.all false
set_option maxRecDepth 100000
set_option maxHeartbeats 4000000
namespace K26
open PySem PySem.Spec PyProof.Rows L2 TM Pr Ep
open Evl (Ex Ev EvT EvA EvL)
section
variable {P : Program} {w : World} {K : PySem.W.Frag} {mg : Str → Option Value} {base : Heap} {A : Adr}
theorem ok_is_count (T : Txt K mg A) : FnOk P w K mg base CX0 1 A.is_count A.is_count_fd ["value"] spCount := by
  refine T.F_is_count.ok sc_is_count (fun vs H Q E h => ?_) (fun cdv A' outer s H vs Q E hr h => ?_)
  · obtain ⟨i, rfl, _⟩ := h
    rfl
  · obtain ⟨i, rfl, k⟩ := h
    refine ⟨_, (pss_one (ps_ret (pe_and (show PE _ _ (tCB (rIsi K) _) from (pe_callB (id := "isinstance") call_isi (by rfl) T.n_isinstance (by decide +kernel) (pa_cons (pv 0) (pa_cons (pe_bltn (v := .ty "int") (by rfl) T.n_int (by decide +kernel) rfl) pa_nil)))) (pe_and (pe_not (show PE _ _ (tCB (rIsi K) _) from (pe_callB (id := "isinstance") call_isi (by rfl) T.n_isinstance (by decide +kernel) (pa_cons (pv 0) (pa_cons (pe_bltn (v := .ty "bool") (by rfl) T.n_bool (by decide +kernel) rfl) pa_nil))))) (pe_one (pe_cmpR op_ge (pv 0) pe_int (nomark _))))))), ?_⟩
    refine ⟨_, rfl, _, _, _, _, true, rfl, .ty _, .base (.int i), (by rfl), true, rfl, iteT ?_⟩
    refine ⟨_, rfl, _, _, _, _, false, rfl, .ty _, .base (.int i), (by rfl), false, rfl, true, rfl, iteT ?_⟩
    exact ⟨_, rfl, i, 0, rfl, rfl, k⟩
theorem ok_is_row (T : Txt K mg A) : FnOk P w K mg base CX0 1 A.is_row A.is_row_fd ["value"] (spRow K) := by
  refine T.F_is_row.ok sc_is_row (fun vs H Q E h => ?_) (fun cdv A' outer s H vs Q E hr h => ?_)
  · obtain ⟨a, xs, rfl, _⟩ := h
    rfl
  · obtain ⟨a, xs, rfl, hx, k⟩ := h
    refine ⟨_, (pss_one (ps_ret (show PE _ _ (tCB (rIsiT K) _) from (pe_callB (id := "isinstance") call_isiT (by rfl) T.n_isinstance (by decide +kernel) (pa_cons (pv 0) (pa_cons (pe_tup (pa_cons (pe_bltn (v := .ty "list") (by rfl) T.n_list (by decide +kernel) rfl) (pa_cons (pe_bltn (v := .ty "tuple") (by rfl) T.n_tuple (by decide +kernel) rfl) pa_nil))) pa_nil)))))), ?_⟩
    refine ⟨_, rfl, by decide, fun p hp => ?_⟩
    have e := Ex.new (o := .tup [.ty "list", .ty "tuple"]) hp
    rcases hx with hx | hx
    · exact ⟨_, p, _, _, _, true, rfl, upd_same, .cons (.ty _) (.cons (.ty _) .nil), .base (.lst (e _ _ hx)), (by rfl), k _ e⟩
    · exact ⟨_, p, _, _, _, true, rfl, upd_same, .cons (.ty _) (.cons (.ty _) .nil), .base (.tup (e _ _ hx)), (by rfl), k _ e⟩
theorem ok_is_pair_up_to (T : Txt K mg A) : FnOk P w K mg base CX0 2 A.is_pair_up_to A.is_pair_up_to_fd ["value", "last"] spPair := by
  refine T.F_is_pair_up_to.ok sc_is_pair_up_to (fun vs H Q E h => ?_) (fun cdv A' outer s H vs Q E hr h => ?_)
  · obtain ⟨t, p, last, rfl, _⟩ := h
    rfl
  · obtain ⟨t, p, last, rfl, ht, k⟩ := h
    refine ⟨_, (pss_one (ps_ret (pe_and (pe_call (ok_is_row T) (hr.mono (by decide)) (by rfl) T.m_is_row T.F_is_row.kp T.b_is_row .nil pass0 (pa_cons (pv 0) pa_nil)) (pe_and (pe_cmpR op_eq (show PE _ _ (tCB (rLenA K) _) from (pe_callB (id := "len") call_len (by rfl) T.n_len (by decide +kernel) (pa_cons (pv 0) pa_nil))) pe_int (nomark _)) (pe_one (show PE _ _ (tCB (rAll K) _) from (pe_callB (id := "all") (cr_all rfl) (by rfl) T.n_all (by decide +kernel) (pa_cons (pe_lc (own := [("place", 2)]) rfl sc_is_pair_up_to.nd (show PI _ _ _ (iTup K _) from pi_tup (pv 0)) (blkOk_by (N := n_is_pair_up_to) (sc := defScope s_is_pair_up_to) (by decide +kernel)) (fun _ _ _ _ _ => (pg_name (i := 2) sc_is_pair_up_to.nd rfl (Or.inl rfl))) (fun _ _ _ _ _ => pts_nil) (fun _ _ _ _ _ => (pe_and (pe_call (ok_is_count T) (hr.mono (by decide)) (by rfl) T.m_is_count T.F_is_count.kp T.b_is_count .nil pass0 (pa_cons (pv 2) pa_nil)) (pe_one (pe_cmpR op_le (pv 2) (pv 1) (nomark _)))))) pa_nil)))))))), ?_⟩
    refine ⟨_, rfl, _, _, rfl, .inr ht, fun H1 e1 => ⟨true, rfl, iteT ?_⟩⟩
    refine ⟨_, rfl, _, 2, rfl, .inr ⟨_, Evl.st_of (e1 _ _ ht), rfl⟩, rfl, true, rfl, iteT ?_⟩
    refine cb_one (lcV (src_tup (K := K) (Evl.ev_var (v := .ref t) rfl) (Evl.st_of (e1 _ _ ht))) (by show 2 ≤ 50000; decide) (fun i x => [some (.ref t), some (vI last), some x]) (fun _ _ => rfl) (fun _ _ _ _ _ _ _ q => q) (fun _ => true)
      (fun i => .bl (decide ((if i = 0 then p.1 else p.2) ≤ last))) (fun _ _ _ _ _ _ => fun H1 e Q q => q H1 (Ex.refl _)) (fun i x H2 e2 hi hx _ => ?_)) fun v H2 e2 hv => ?_
    · have ex : x = vI (if i = 0 then p.1 else p.2) := by
        match i, hi, hx with
        | 0, _, hx => exact (Option.some.inj hx).symm
        | 1, _, hx => exact (Option.some.inj hx).symm
      subst ex
      intro H3 e3 Q q
      refine ⟨_, rfl, _, rfl, true, ?_, iteT ?_⟩
      · rw [decide_eq_true (Int.natCast_nonneg _)]
      · refine ⟨_, rfl, _, rfl, _, _, rfl, rfl, ?_⟩
        have z := q H3 (Ex.refl _)
        have d : decide (((if i = 0 then p.1 else p.2 : Nat) : Int) ≤ (last : Int)) = decide ((if i = 0 then p.1 else p.2) ≤ last) := by
          by_cases c : (if i = 0 then p.1 else p.2) ≤ last
          · rw [decide_eq_true c, decide_eq_true (Int.ofNat_le.mpr c)]
          · rw [decide_eq_false c, decide_eq_false (fun z => c (Int.ofNat_le.mp z))]
        show Q (V.bl (decide (((if i = 0 then p.1 else p.2 : Nat) : Int) ≤ (last : Int)))) H3
        rw [d]
        exact z
    · obtain ⟨D, rfl, _, hD⟩ := hv
      refine ⟨D, [decide (p.1 ≤ last), decide (p.2 ≤ last)], rfl, Evl.sq_of hD, ?_⟩
      have z := k H2 (e1.trans e2)
      show Q (V.bl (decide (p.1 ≤ last) && (decide (p.2 ≤ last) && true))) H2
      rw [Bool.and_true]
      exact z
end
end K26

set_option Elab.async false
set_option linter.all false
set_option maxRecDepth 100000
set_option maxHeartbeats 4000000
namespace K26
open PySem PySem.Spec PyProof.Rows L2 TM Pr Ep
open Evl (Ex Ev EvT EvA EvL)
section
variable {P : Program} {w : World} {K : PySem.W.Frag} {mg : Str → Option Value} {base : Heap} {A : Adr}
theorem ok_neighbours_by_place (T : Txt K mg A) : FnOk P w K mg base CX0 1 A.neighbours_by_place A.neighbours_by_place_fd ["lanes"] spNeigh := by
  refine T.F_neighbours_by_place.ok sc_neighbours_by_place (fun vs H Q E h => ?_) (fun cdv A' outer s H vs Q E hr h => ?_)
  · obtain ⟨a, L, rfl, _⟩ := h
    rfl
  · obtain ⟨a, L, rfl, hL, hb, hlen, k⟩ := h
    have hu := hu_of hr
    refine ⟨_, (pss_cons (ps_set (i := 1) sc_neighbours_by_place.nd rfl (Or.inr rfl) (pe_dc (own := [("place", 4)]) rfl sc_neighbours_by_place.nd (pi_range1 (by rfl) T.n_range (pa_cons (pe_op op_add (show PE _ _ (tCB (rLenA K) _) from (pe_callB (id := "len") call_len (by rfl) T.n_len (by decide +kernel) (pa_cons (pv 0) pa_nil))) pe_int) pa_nil)) (blkOk_by (N := n_neighbours_by_place) (sc := defScope s_neighbours_by_place) (by decide +kernel)) (fun _ _ _ _ _ => (pg_name (i := 4) sc_neighbours_by_place.nd rfl (Or.inl rfl))) (fun _ _ _ _ _ => pts_nil) (fun _ _ _ _ _ => (pv 4)) (fun _ _ _ _ _ => (pe_lst pa_nil)))) (pss_cons (ps_for PassesOwn.never rfl (show PI _ _ _ (iList K _) from pi_list (pv 0)) (show PG _ _ (gTup K 2 _) from pg_tup rfl (pgs_cons (pg_name (i := 2) sc_neighbours_by_place.nd rfl (Or.inl rfl)) (pgs_cons (pg_name (i := 3) sc_neighbours_by_place.nd rfl (Or.inl rfl)) pgs_nil))) (pss_cons (ps_expr (show PE _ _ (tBM K "list" rAppend _ _) from pe_bm PySem.F.plainAttrs_list PySem.F.slot_list_append PySem.F.type_list_append mt_append (pe_dget hu (pv 1) (pv 2) (fun _ _ => rfl)) (pa_cons (pv 3) pa_nil))) (pss_one (ps_expr (show PE _ _ (tBM K "list" rAppend _ _) from pe_bm PySem.F.plainAttrs_list PySem.F.slot_list_append PySem.F.type_list_append mt_append (pe_dget hu (pv 1) (pv 3) (fun _ _ => rfl)) (pa_cons (pv 2) pa_nil)))))) (pss_one (ps_ret (pe_lock (pe_dc (own := [("place", 4)]) rfl sc_neighbours_by_place.nd (pi_keys (pv 1)) (blkOk_by (N := n_neighbours_by_place) (sc := defScope s_neighbours_by_place) (by decide +kernel)) (fun _ _ _ _ _ => (pg_name (i := 4) sc_neighbours_by_place.nd rfl (Or.inl rfl))) (fun _ _ _ _ _ => pts_nil) (fun _ _ _ _ _ => (pv 4)) (fun _ _ _ _ _ => (show PE _ _ (tCB (rSortedI K) _) from (pe_callB (id := "sorted") cr_sortedI (by rfl) T.n_sorted (by decide +kernel) (pa_cons (pe_dget hu (pv 1) (pv 4) (fun _ _ => rfl)) pa_nil)))))))))), ?_⟩
    obtain ⟨ls, ha, hp⟩ := hL
    have hll : ls.length = L.length := PySem.Paired.length hp
    -- around = {place: [] ..}
    refine p_asg (dcI (n := L.length + 1) (src_rng1 (n := L.length + 1) ?_ (by omega)) (by omega) (fun i x => [some (.ref a), none, none, none, some x]) (fun _ _ => rfl)
      (fun D i ys H' => ∃ rs : List Addr, ys = rs.map V.ref ∧ rs.Nodup ∧ rs.length = i ∧ ∀ r ∈ rs, r ≠ D ∧ H r = none ∧ H' r = some (HO.lst [])) (fun _ _ _ _ _ _ _ q => q) keyN (fun i j h1 h2 e => ?_) (fun i x H1 _ _ hx => ?_) (fun _ => NewL []) (fun i x H1 _ _ _ => ?_) (fun D H1 _ _ => ?_) (fun D i ys Ha Hb e h => ?_) (fun D i ys v Ha Hb kvs e1 e2 hD hi h p xs => ?_)) fun v H1 e1 hv => ?_
    · intro H1 e1 Q' q
      refine ⟨_, rfl, _, ls.length, rfl, .inl ⟨_, Evl.sq_of (e1 _ _ ha), rfl⟩, _, _, rfl, rfl, ?_⟩
      have z := q H1 (Ex.refl _)
      rw [hll]
      exact z
    · injection e with e
      omega
    · subst hx
      exact Evl.ev_var rfl
    · exact evp_lst Evl.ea_nil (by decide)
    · exact ⟨[], rfl, List.nodup_nil, rfl, fun r hr => nomatch hr⟩
    · obtain ⟨rs, h1, h2, h3, h4⟩ := h
      exact ⟨rs, h1, h2, h3, fun r hr => ⟨(h4 r hr).1, (h4 r hr).2.1, e _ _ (h4 r hr).2.2⟩⟩
    · obtain ⟨rs, h1, h2, h3, h4⟩ := h
      obtain ⟨q, rfl, hq, hq2⟩ := p
      have qD : q ≠ D := fun z => by rw [z, hD] at hq; cases hq
      refine ⟨rs ++ [q], by rw [h1, List.map_append]; rfl, ?_, by simp [h3], fun r hr => ?_⟩
      · refine List.nodup_append.mpr ⟨h2, by simp, fun x hx y hy z => ?_⟩
        have : y = q := by simpa using hy
        subst this
        subst z
        have z2 := (h4 x hx).2.2
        rw [hq] at z2
        cases z2
      · rcases List.mem_append.mp hr with hr | hr
        · refine ⟨(h4 r hr).1, (h4 r hr).2.1, ?_⟩
          rw [upd_ne (h4 r hr).1]
          exact e2 _ _ (h4 r hr).2.2
        · have : r = q := by simpa using hr
          subst this
          refine ⟨qD, Evl.fresh_back e1 hq, ?_⟩
          rw [upd_ne qD]
          exact hq2
    · obtain ⟨d, ys, rfl, hd0, hd, hyl, rs, rfl, nd, hrl, hrs⟩ := hv
      -- for one, other in lanes
      have hm : ∀ {j : Nat}, j ≤ L.length → j < L.length + 1 := fun h => by omega
      refine Evl.q_forL (K := K) (a := a) (xs := ls) (Evl.ev_var rfl) (Evl.sq_of (e1 _ _ ha)) (fun i σ' H' => ∃ y2 y3, σ' = [some (.ref a), some (.ref d), y2, y3, none] ∧ Ex H H' ∧ H' d = some (dkOf (L.length + 1) rs) ∧ RowsAt H' (L.length + 1) rs (fun j => nbP (L.take i) j))
        (fun H2 e2 => ⟨none, none, rfl, e1.trans e2, e2 _ _ hd, hrl, fun i r hi => e2 _ _ (hrs r (List.mem_of_getElem? hi)).2.2⟩) (fun i σ' H' _ ⟨_, _, _, e, _⟩ => Evl.sq_of (e _ _ ha)) (fun i x σ' H2 hi h => ?_) (fun σ' H2 h => ?_)
      · obtain ⟨y2, y3, rfl, e2, hd2, R⟩ := h
        obtain ⟨⟨o1, o2⟩, hpi, t, rfl, ht⟩ := paired_ix hp hi
        obtain ⟨b1, b2⟩ := hb _ (List.mem_of_getElem? hpi)
        have b1 : o1 < L.length + 1 := hm b1
        have b2 : o2 < L.length + 1 := hm b2
        refine ⟨t, _, rfl, Evl.st_of (e2 _ _ ht), rfl, _, _, rfl, _, _, rfl, rfl, ?_⟩
        obtain ⟨r1, q1, h1, v1⟩ := R.get b1
        have f1 : H r1 = none := (hrs r1 (List.mem_of_getElem? q1)).2.1
        have nd1 : r1 ≠ d := (hrs r1 (List.mem_of_getElem? q1)).1
        have n1 : (vIs (nbP (L.take i) o1)).length < sizeLine := by
          rw [List.length_map]
          have := nbP_len (L.take i) o1
          have : (L.take i).length ≤ L.length := by rw [List.length_take]; omega
          exact szN (by omega)
        refine ⟨_, rfl, _, rfl, d, _, rfl, .inl ⟨_, keyN o1, .inl hd2, rfl, v1.symm⟩, .inl ⟨rfl, _, .inl (.inl h1)⟩, _, rfl, r1, _, _, rfl, rfl, h1, n1, ?_⟩
        have R1 := R.app nd (x := o2) q1
        have e3 : Ex H (upd H2 r1 (.lst (vIs (nbP (L.take i) o1) ++ [vI o2]))) := Ex.mut e2 f1
        generalize hH3 : upd H2 r1 (.lst (vIs (nbP (L.take i) o1) ++ [vI o2])) = H3 at R1 e3
        have hd3 : H3 d = some (dkOf (L.length + 1) rs) := by
          rw [← hH3, upd_ne nd1.symm]
          exact hd2
        obtain ⟨r2, q2, h2, v2⟩ := R1.get b2
        have f2 : H r2 = none := (hrs r2 (List.mem_of_getElem? q2)).2.1
        have nd2 : r2 ≠ d := (hrs r2 (List.mem_of_getElem? q2)).1
        have n2 : (vIs (nbP (L.take i) o2 ++ if o1 = o2 then [o2] else [])).length < sizeLine := by
          rw [List.length_map, List.length_append]
          have := nbP_len (L.take i) o2
          have : (L.take i).length ≤ L.length := by rw [List.length_take]; omega
          have : (if o1 = o2 then [o2] else []).length ≤ 1 := by split <;> simp
          exact szN (by omega)
        refine ⟨_, rfl, _, rfl, d, _, rfl, .inl ⟨_, keyN o2, .inl hd3, rfl, v2.symm⟩, .inl ⟨rfl, _, .inl (.inl h2)⟩, _, rfl, r2, _, _, rfl, rfl, h2, n2, ?_⟩
        have R2 := R1.app nd (x := o1) q2
        refine ⟨_, _, rfl, Ex.mut e3 f2, by rw [upd_ne nd2.symm]; exact hd3, R2.congr fun j _ => ?_⟩
        rw [take_more hpi, nbP_snoc]
        simp only [List.append_assoc]
      · obtain ⟨y2, y3, rfl, e2, hd2, R⟩ := h
        rw [hll, List.take_length] at R
        -- return {place: sorted(around[place]) for place in around}
        refine p_ret (P := fun v Ha Hb => ∃ p, v = .ref p ∧ Ha p = none ∧ AroundAt Hb p (L.length + 1) (adj L)) (evp_lock (d := d) (u := dkOf (L.length + 1) rs) hd2 trivial (P := fun v Ha Hb => ∃ p qs, v = .ref p ∧ Ha p = none ∧ p ≠ d ∧ Hb p = some (dkOf (L.length + 1) qs) ∧ RowsAt Hb (L.length + 1) qs (adj L) ∧ ∀ r ∈ qs, r ≠ d) (fun Ha od ea => ?_) (fun v Ha Hb od ea eb h => ?_)) (fun v H3 e3 h => ?_)
        · have hd3 : Ha d = some (dkOf (L.length + 1) rs) := ea _ _ hd2
          have R3 := (R.ex ea).lock hd3 od
          have hkl : ((keysN (L.length + 1)).zip (rs.map V.ref)).length = L.length + 1 := by
            rw [List.length_zip, keysN_length, List.length_map, hrl, Nat.min_self]
          have src := src_keys (σ := [some (.ref a), some (.ref d), y2, y3, none]) (H := upd Ha d (.frz od (dkOf (L.length + 1) rs))) (td := tVar 1) (d := d) (o := od) (Evl.ev_var rfl) upd_same
          rw [hkl] at src
          have hX : ∀ {i : Nat} {x : V}, i < L.length + 1 → (∃ k z, ((keysN (L.length + 1)).zip (rs.map V.ref))[i]? = some (k, z) ∧ x = kV k) → x = vI i := fun {i x} hi h => by
            obtain ⟨k, z, e1, e2⟩ := h
            have := List.getElem?_zip_eq_some.mp e1
            rw [keysN_at hi] at this
            obtain ⟨e3, _⟩ := this
            cases e3
            exact e2
          refine (dcI src (by omega) (fun i x => [some (.ref a), some (.ref d), y2, y3, some x]) (fun _ _ => rfl)
            (fun D i ys H' => D ≠ d ∧ ∃ qs : List Addr, ys = qs.map V.ref ∧ qs.length = i ∧ (∀ r ∈ qs, r ≠ D ∧ r ≠ d) ∧ ∀ j r, qs[j]? = some r → H' r = some (HO.lst (vIs (adj L j)))) (fun _ _ _ _ _ _ _ q => q) keyN (fun i j h1 h2 e => ?_) (fun i x H1 _ hi hx => ?_) (fun i => NewL (vIs (adj L i))) (fun i x H1 e4 hi hx => ?_) (fun D H1 e4 hD => ?_) (fun D i ys Ha Hb e h => ?_) (fun D i ys v Ha' Hb' kvs e4 e5 hD hi h p xs => ?_)).imp ?_
          · injection e with e
            omega
          · cases hX hi hx
            exact Evl.ev_var rfl
          · cases hX hi hx
            intro H5 e5 Q' q'
            obtain ⟨r, hr, h5, v5⟩ := R3.get hi
            refine ⟨_, rfl, _, rfl, d, _, rfl, .inl ⟨_, keyN i, .inr ⟨od, e5 _ _ (e4 _ _ upd_same)⟩, rfl, v5.symm⟩, ?_⟩
            refine ⟨r, (nbP L i).map fun (n : Nat) => (n : Int), rfl, ?_, fun ns' p perm srt hp => ?_⟩
            · rw [← vIs_int]
              exact Evl.sq_of (e5 _ _ (e4 _ _ h5))
            · have := int_sorted perm srt
              rw [adjP] at this
              subst this
              rw [← vIs_int]
              exact q' _ _ (Ex.new hp) ⟨p, rfl, hp, upd_same⟩
          · refine ⟨fun z => ?_, [], rfl, rfl, (fun r hr => nomatch hr), (fun j r hr => by simp at hr)⟩
            subst z
            rw [e4 _ _ upd_same] at hD
            cases hD
          · obtain ⟨h0, qs, h1, h2, h3, h4⟩ := h
            exact ⟨h0, qs, h1, h2, h3, fun j r hr => e _ _ (h4 j r hr)⟩
          · obtain ⟨h0, qs, h1, h2, h3, h4⟩ := h
            obtain ⟨q, rfl, hq, hq2⟩ := p
            have qD : q ≠ D := fun z => by rw [z, hD] at hq; cases hq
            have qd : q ≠ d := fun z => by rw [z, e4 _ _ upd_same] at hq; cases hq
            refine ⟨h0, qs ++ [q], by rw [h1, List.map_append]; rfl, by simp [h2], fun r hr => ?_, fun j r hr => ?_⟩
            · rcases List.mem_append.mp hr with hr | hr
              · exact h3 r hr
              · have : r = q := by simpa using hr
                subst this
                exact ⟨qD, qd⟩
            · by_cases hj : j < qs.length
              · rw [List.getElem?_append_left hj] at hr
                rw [upd_ne (h3 r (List.mem_of_getElem? hr)).1]
                exact e5 _ _ (h4 j r hr)
              · rw [List.getElem?_append_right (by omega)] at hr
                have e0 : j - qs.length = 0 := by
                  have := (List.getElem?_eq_some_iff.mp hr).1
                  simp at this
                  omega
                rw [e0] at hr
                have : q = r := Option.some.inj hr
                subst this
                have ej : j = i := by omega
                subst ej
                rw [upd_ne qD]
                exact hq2
          · rintro v H1 H2 e4 e5 ⟨p, ys, rfl, hp0, hp1, hl, npd, qs, rfl, hql, h3, h4⟩
            exact ⟨p, qs, rfl, hp0, npd, hp1, ⟨hql, h4⟩, fun r hr => (h3 r hr).2⟩
        · obtain ⟨p, qs, rfl, hp0, npd, hp1, R3, nq⟩ := h
          refine ⟨p, rfl, ?_, qs, ?_, R3.len, fun i r hi => ?_⟩
          · rw [upd_ne npd] at hp0
            exact hp0
          · rw [upd_ne npd]
            exact hp1
          · rw [upd_ne (nq r (List.mem_of_getElem? hi))]
            exact R3.at_ i r hi
        · obtain ⟨p, rfl, hp0, hA⟩ := h
          exact k p H3 (e2.trans e3) (Evl.fresh_back e2 hp0) hA
end
end K26

set_option Elab.async false
set_option linter.all false
set_option maxRecDepth 100000
set_option maxHeartbeats 4000000
namespace Pr
open PySem PySem.Spec PyProof.Rows L2 TM
open Evl (Ex)
abbrev kvO (kvs : List (Nat × Nat)) : HO := .dK (kvs.map fun q => (keyN q.1, vI q.2))
theorem keyN_inj {a b : Nat} : keyN a = keyN b ↔ a = b := by
  constructor
  · intro h
    injection h with h
    omega
  · intro h
    rw [h]
theorem valV_kv : ∀ (kvs : List (Nat × Nat)) (y : Nat), valV (kvs.map fun q => (keyN q.1, vI q.2)) (keyN y) = (look kvs y).map vI
  | [], y => rfl
  | (a, b) :: kvs, y => by
    show valV ((keyN a, vI b) :: kvs.map fun q => (keyN q.1, vI q.2)) (keyN y) = _
    by_cases e : a = y
    · subst e
      rw [valV_pos rfl]
      simp [look]
    · rw [valV_neg (fun h => e (keyN_inj.mp h)), valV_kv kvs y]
      simp [look, List.find?_cons, e]
theorem look_none {kvs : List (Nat × Nat)} {y : Nat} : look kvs y = none ↔ y ∉ keys kvs := by
  constructor
  · intro h m
    obtain ⟨v, e⟩ := look_some m
    rw [h] at e
    cases e
  · intro h
    cases e : look kvs y with
    | none => rfl
    | some v =>
      obtain ⟨i, hi⟩ := look_ix e
      exact absurd (List.mem_map.mpr ⟨_, List.mem_of_getElem? hi, rfl⟩) h
end Pr
namespace K26
open PySem PySem.Spec PyProof.Rows L2 TM Pr Ep
open Evl (Ex Ev EvT EvA EvL)
section
variable {P : Program} {w : World} {K : PySem.W.Frag} {mg : Str → Option Value} {base : Heap} {A : Adr}
theorem ok_places_ahead (T : Txt K mg A) : FnOk P w K mg base CX0 1 A.places_ahead A.places_ahead_fd ["around", "goal"] spAhead := by
  refine T.F_places_ahead.ok sc_places_ahead (fun vs H Q E h => ?_) (fun cdv A' outer s H vs Q E hr h => ?_)
  · obtain ⟨L, d, goal, vt, rfl, _⟩ := h
    rfl
  · obtain ⟨L, d, goal, vt, rfl, g, hA, hg, hvt, hlen, k⟩ := h
    have hu := hu_of hr
    refine ⟨_, (pss_cons (ps_set (i := 2) sc_places_ahead.nd rfl (Or.inl rfl) pe_dnewK) (pss_cons (ps_set (i := 3) sc_places_ahead.nd rfl (Or.inl rfl) (pe_lst (pa_cons (pv 1) pa_nil))) (pss_cons (ps_while PassesOwn.never (pt_truth (pv 3) (by intro _; rfl)) (pss_cons (ps_set (i := 4) sc_places_ahead.nd rfl (Or.inl rfl) (show PE _ _ (tBM0 K "list" rPop _) from pe_bm0 PySem.F.plainAttrs_list PySem.F.slot_list_pop PySem.F.type_list_pop mt_pop (pv 3))) (pss_one (ps_for PassesOwn.never rfl (show PI _ _ _ (iList K _) from pi_list (pe_dget hu (pv 0) (pv 4) (fun _ _ => rfl))) (pg_name (i := 5) sc_places_ahead.nd rfl (Or.inl rfl)) (pss_one (ps_if (PW.pt (pw_and (pt_cmpR op_ne (pv 5) (pv 1) (nomark _)) (pw_and1 (pt_cmp (pc_dnotin hu (pv 5) (pv 2)))))) (pss_cons (ps_dput hu (pv 2) (pv 5) (pv 4) rfl) (pss_one (ps_expr (show PE _ _ (tBM K "list" rAppend _ _) from pe_bm PySem.F.plainAttrs_list PySem.F.slot_list_append PySem.F.type_list_append mt_append (pv 3) (pa_cons (pv 5) pa_nil))))) pss_nil)))))) (pss_one (ps_ret (pv 2)))))), ?_⟩
    -- ahead = {}; waiting = [goal]
    refine p_asg evp_dnew fun v H1 e1 hv => ?_
    obtain ⟨p, rfl, hp, hp1⟩ := hv
    refine p_asg (evp_lst (vs := [vI goal]) (Evl.ea_cons (Evl.ev_var rfl) Evl.ea_nil) (by show 1 ≤ 100000; decide)) fun v H2 e2 hv => ?_
    obtain ⟨q, rfl, hq, hq2⟩ := hv
    have npq : p ≠ q := ne_of_none hp1 hq
    have fq : H q = none := Evl.fresh_back e1 hq
    have e0 : Ex H H2 := e1.trans e2
    have hp2 := e2 _ _ hp1
    have vl := g.length
    obtain ⟨rs, hd0, R0⟩ := hA
    refine Evl.q_while (fun m σ' H' => ∃ kvs wt y4 y5, σ' = [some (.ref d), some (vI goal), some (.ref p), some (.ref q), y4, y5] ∧ Ex H H' ∧ H' p = some (kvO kvs) ∧ H' q = some (.lst (vIs wt)) ∧ DOut L goal kvs wt ∧ m = 2 * (vt.length - kvs.length) + wt.length ∧ 2 * (vt.length - kvs.length) + wt.length ≤ 2 * vt.length + 1) (2 * (vt.length - 0) + 1)
      ⟨[], [goal], none, none, rfl, e0, hp2, hq2, DOut.start L goal, rfl, by simp⟩ (fun m σ' H' h => ?_)
    obtain ⟨kvs, wt, y4, y5, rfl, e1, hp1, hq1, D, rfl, hsz⟩ := h
    refine ⟨!wt.isEmpty, fun H2 e2 Q' q' => ⟨_, rfl, !wt.isEmpty, .inl ⟨_, Evl.sq_of (e2 _ _ hq1), ?_⟩, q' _ (Ex.refl _)⟩, fun hb H2 e2 => ?_, fun hb H2 e2 => ?_⟩
    · cases wt <;> rfl
    · -- a turn
      obtain ⟨here, wt', rfl⟩ : ∃ here wt', wt = wt' ++ [here] := by
        rcases List.eq_nil_or_concat wt with e | ⟨a, b, e⟩
        · subst e; cases hb
        · exact ⟨b, a, by rw [e, List.concat_eq_append]⟩
      have DI := D.pop
      have e3 := e1.trans e2
      have hp2 := e2 _ _ hp1
      have hq2 := e2 _ _ hq1
      have hin : here ∈ vt := by
        rcases DI.me with e | e
        · exact e ▸ hg
        · obtain ⟨pr, hpr, e⟩ := List.mem_map.mp e
          obtain ⟨j, hj⟩ := List.getElem?_of_mem hpr
          exact e ▸ (g.ends (DI.told.ord j pr.1 pr.2 hj).1).2
      refine ⟨fun σ2 H3 => ∃ kvs' wt2 y4 y5, σ2 = [some (.ref d), some (vI goal), some (.ref p), some (.ref q), y4, y5] ∧ Ex H H3 ∧ H3 p = some (kvO kvs') ∧ H3 q = some (.lst (vIs wt2)) ∧ DOut L goal kvs' wt2 ∧ 2 * (vt.length - kvs'.length) + wt2.length < 2 * (vt.length - kvs.length) + (wt' ++ [here]).length,
        fun σ2 H3 ⟨kvs', wt2, y4, y5, h1, h2, h3, h4, h5, h6⟩ => ⟨_, h6, kvs', wt2, y4, y5, h1, h2, h3, h4, h5, rfl, by omega⟩, ?_⟩
      -- here = waiting.pop()
      refine ⟨_, rfl, .inl ⟨rfl, _, .inl (.inl hq2)⟩, q, _, vI here, rfl, rfl, hq2, ?_, ?_⟩
      · simp [vIs]
      have hdl : (vIs (wt' ++ [here])).dropLast = vIs wt' := by simp [vIs]
      rw [hdl]
      have e4 : Ex H (upd H2 q (.lst (vIs wt'))) := Ex.mut e3 fq
      have hp4 : (upd H2 q (.lst (vIs wt'))) p = some (kvO kvs) := by rw [upd_ne npq]; exact hp2
      have hq4 : (upd H2 q (.lst (vIs wt'))) q = some (.lst (vIs wt')) := upd_same
      generalize upd H2 q (.lst (vIs wt')) = H4 at e4 hp4 hq4
      obtain ⟨r, hr1, hrH, vr⟩ := R0.get (hvt _ hin)
      have hr2 := e4 _ _ hrH
      have npr : r ≠ p := ne_of_none hrH hp
      have nqr : r ≠ q := ne_of_none hrH fq
      have evr : Ev (tDGet (tVar 0) (tVar 4)) [some (.ref d), some (vI goal), some (.ref p), some (.ref q), some (vI here), y5] H4 (.ref r) := fun H5 e5 Q' q' => ⟨_, rfl, _, rfl, d, _, rfl, .inl ⟨_, keyN here, Evl.ex_rd (e4.trans e5) hd0, rfl, vr.symm⟩, q' H5 (Ex.refl _)⟩
      refine Evl.s_forL (K := K) evr (Evl.sq_of hr2) (fun i σ' H' => ∃ kvs' wt2 y5, σ' = [some (.ref d), some (vI goal), some (.ref p), some (.ref q), some (vI here), y5] ∧ Ex H H' ∧ H' p = some (kvO kvs') ∧ H' q = some (.lst (vIs wt2)) ∧ DIn L goal here i kvs' wt2 ∧ 2 * (vt.length - kvs'.length) + wt2.length < 2 * (vt.length - kvs.length) + (wt' ++ [here]).length)
        (fun H5 e5 => ⟨kvs, wt', y5, rfl, e4.trans e5, e5 _ _ hp4, e5 _ _ hq4, DI, by simp⟩) (fun i σ' H' _ ⟨_, _, _, _, e, _⟩ => Evl.sq_of (e _ _ hrH)) (fun i x σ' H5 hi h => ?_) (fun σ' H5 h => ?_)
      · obtain ⟨kvs', wt2, y5', rfl, e5, hp5, hq5, DI5, hm5⟩ := h
        obtain ⟨near, hnear, rfl⟩ : ∃ near, (adj L here)[i]? = some near ∧ vI near = x := by
          rw [List.getElem?_map] at hi
          cases e : (adj L here)[i]? with
          | none => rw [e] at hi; cases hi
          | some z => rw [e] at hi; exact ⟨z, rfl, Option.some.inj hi⟩
        have nv : near ∈ vt := (g.ends (mem_adj.mp (List.mem_of_getElem? hnear))).2
        show tIfS _ _ _ _ _ _
        -- near != goal and near not in ahead
        have et : EvT (tAnd (tTest (tOp rNe (tVar 5) (tVar 1))) (tB (tDNotIn (tVar 5) (tVar 2)))) [some (.ref d), some (vI goal), some (.ref p), some (.ref q), some (vI here), some (vI near)] H5 (!decide (near = goal) && !(look kvs' near).isSome) := by
          refine Evl.et_and (Evl.et_is (Evl.et_test (Evl.ev_op (Evl.ev_var rfl) (Evl.ev_var rfl) (Evl.rv_ne rfl))) ?_) fun _ => ?_
          · congr 1
            by_cases e : near = goal
            · subst e; simp
            · rw [decide_eq_false e, decide_eq_false (fun z => e (by injection z with z; omega))]
          · intro H6 e6 Q' q'
            refine ⟨_, rfl, _, rfl, p, _, rfl, .inl ⟨_, keyN near, .inl (e6 _ _ hp5), rfl, rfl⟩, _, rfl, ?_⟩
            rw [valV_kv]
            have := q' H6 (Ex.refl _)
            cases e : look kvs' near with
            | none => rw [e] at this; exact this
            | some v => rw [e] at this; exact this
        refine Evl.s_when et (fun hb H6 e6 => ?_) (fun hb H6 e6 => ?_)
        · have n1 : near ≠ goal := fun e => by rw [decide_eq_true e] at hb; cases hb
          have n2 : look kvs' near = none := by
            cases e : look kvs' near with
            | none => rfl
            | some v => rw [e] at hb; simp at hb
          have nk : ¬ Known goal kvs' near := fun z => z.elim n1 (look_none.mp n2)
          have hroom := DI5.room g hg nv nk
          have hp6 := e6 _ _ hp5
          have hq6 := e6 _ _ hq5
          have hz : (kvs'.map fun q => (keyN q.1, vI q.2)).length < sizeLine := by
            rw [List.length_map]
            exact szN (by omega)
          refine ⟨_, rfl, _, rfl, _, rfl, p, _, rfl, DPut.k (k := keyN near) hp6 hz, ?_⟩
          have hv : valV (kvs'.map fun q => (keyN q.1, vI q.2)) (keyN near) = none := by rw [valV_kv, n2]; rfl
          rw [putK_new _ hv]
          have ek : (kvs'.map fun q => (keyN q.1, vI q.2)) ++ [(keyN near, vI here)] = (kvs' ++ [(near, here)]).map fun q => (keyN q.1, vI q.2) := by rw [List.map_append]; rfl
          rw [ek]
          have hq7 : (upd H6 p (kvO (kvs' ++ [(near, here)]))) q = some (.lst (vIs wt2)) := by rw [upd_ne npq.symm]; exact hq6
          have hz2 : (vIs wt2).length < sizeLine := by
            rw [List.length_map]
            exact szN (by omega)
          refine ⟨_, rfl, .inl ⟨rfl, _, .inl (.inl hq7)⟩, _, rfl, q, _, _, rfl, rfl, hq7, hz2, ?_⟩
          refine ⟨kvs' ++ [(near, here)], wt2 ++ [near], _, rfl, Ex.mut (Ex.mut (e5.trans e6) hp) fq, ?_, ?_, DI5.add hnear nk, ?_⟩
          · rw [upd_ne npq, upd_same]
          · rw [upd_same]
            simp [vIs]
          · simp only [List.length_append, List.length_cons, List.length_nil] at hm5 ⊢
            omega
        · have kn : Known goal kvs' near := by
            by_cases e : near = goal
            · exact .inl e
            · refine .inr ?_
              rw [decide_eq_false e] at hb
              cases e2 : look kvs' near with
              | none => rw [e2] at hb; cases hb
              | some v =>
                obtain ⟨j, hj⟩ := look_ix e2
                exact List.mem_map.mpr ⟨_, List.mem_of_getElem? hj, rfl⟩
          exact ⟨kvs', wt2, _, rfl, e5.trans e6, e6 _ _ hp5, e6 _ _ hq5, DI5.skip hnear kn, hm5⟩
      · obtain ⟨kvs', wt2, y5', rfl, e5, hp5, hq5, DI5, hm5⟩ := h
        rw [List.length_map] at DI5
        exact ⟨kvs', wt2, _, _, rfl, e5, hp5, hq5, DI5.done, hm5⟩
    · -- nothing waits
      have : wt = [] := by cases wt with | nil => rfl | cons a b => cases hb
      subst this
      exact ⟨_, rfl, k p H2 kvs (e1.trans e2) hp D.ahead (e2 _ _ hp1)⟩
end
end K26

set_option Elab.async false
set_option linter.all false
set_option maxRecDepth 100000
set_option maxHeartbeats 4000000
namespace K26
open PySem PySem.Spec PyProof.Rows L2 TM Pr Ep
open Evl (Ex Ev EvT EvA EvL)
section
variable {P : Program} {w : World} {K : PySem.W.Frag} {mg : Str → Option Value} {base : Heap} {A : Adr}
/-- the walk through the keys of rows that are locked -/
theorem keys_x {m i : Nat} {rs : List Addr} {x : V} (hi : i < m) (h : ∃ k z, ((keysN m).zip (rs.map V.ref))[i]? = some (k, z) ∧ x = kV k) : x = vI i := by
  obtain ⟨k, z, e1, e2⟩ := h
  have := List.getElem?_zip_eq_some.mp e1
  rw [keysN_at hi] at this
  obtain ⟨e3, _⟩ := this
  cases e3
  exact e2
theorem src_rows {td : TE} {σ : L2.St} {H : Hp} {d : Addr} {od : Obj} {m : Nat} {rs : List Addr} (hrl : rs.length = m) (h : Ev td σ H (.ref d)) (hd : H d = some (.frz od (dkOf m rs))) : Src (iKeys td) σ H m (fun i v => ∃ k z, ((keysN m).zip (rs.map V.ref))[i]? = some (k, z) ∧ v = kV k) := by
  have src := src_keys (σ := σ) (H := H) (td := td) (d := d) (o := od) h hd
  have hkl : ((keysN m).zip (rs.map V.ref)).length = m := by rw [List.length_zip, keysN_length, List.length_map, hrl, Nat.min_self]
  rw [hkl] at src
  exact src
theorem ev_row {td tk : TE} {σ : L2.St} {H : Hp} {d r : Addr} {m i : Nat} {rs : List Addr} (h : Ev td σ H (.ref d)) (hk : Ev tk σ H (vI i)) (hd : Rd H d (dkOf m rs)) (hv : valV ((keysN m).zip (rs.map V.ref)) (keyN i) = some (.ref r)) : Ev (tDGet td tk) σ H (.ref r) := fun H1 e1 Q q =>
  h H1 e1 _ fun H2 e2 => hk H2 (e1.trans e2) _ fun H3 e3 => ⟨d, _, rfl, .inl ⟨_, keyN i, Evl.ex_rd ((e1.trans e2).trans e3) hd, rfl, hv.symm⟩, q H3 (e2.trans e3)⟩
theorem ok_yards_among (T : Txt K mg A) : FnOk P w K mg base CX0 1 A.yards_among A.yards_among_fd ["around"] spYards := by
  refine T.F_yards_among.ok sc_yards_among (fun vs H Q E h => ?_) (fun cdv A' outer s H vs Q E hr h => ?_)
  · obtain ⟨L, d, rfl, _⟩ := h
    rfl
  · obtain ⟨L, d, rfl, ⟨rs, hd, R⟩, hlen, k⟩ := h
    have hu := hu_of hr
    refine ⟨_, (pss_one (ps_ret (pe_lock (pe_lc (own := [("place", 1)]) rfl sc_yards_among.nd (pi_keys (pv 0)) (blkOk_by (N := n_yards_among) (sc := defScope s_yards_among) (by decide +kernel)) (fun _ _ _ _ _ => (pg_name (i := 1) sc_yards_among.nd rfl (Or.inl rfl))) (fun _ _ _ _ _ => (pts_one (pt_cmpR op_gt (show PE _ _ (tCB (rLenA K) _) from (pe_callB (id := "len") call_len (by rfl) T.n_len (by decide +kernel) (pa_cons (pe_dget hu (pv 0) (pv 1) (fun _ _ => rfl)) pa_nil))) pe_int (nomark _)))) (fun _ _ _ _ _ => (pv 1)))))), ?_⟩
    refine p_ret (P := NewL (vIs (yardsL L))) (evp_lock (d := d) (u := dkOf (L.length + 1) rs) hd trivial (P := fun v Ha Hb => ∃ p, v = .ref p ∧ Ha p = none ∧ p ≠ d ∧ Hb p = some (.lst (vIs (yardsL L)))) (fun Ha od ea => ?_) (fun v Ha Hb od ea eb h => ?_)) (fun v H1 e1 h => ?_)
    · have R3 := (R.ex ea).lock (ea _ _ hd) od
      refine (lcV (src_rows R.len (Evl.ev_var (v := .ref d) rfl) upd_same) (by omega) (fun i x => [some (.ref d), some x]) (fun _ _ => rfl) (fun _ _ _ _ _ _ _ q => q) (fun i => decide (1 < (adj L i).length)) (fun i => vI i) (fun i x H1 e1 hi hx => ?_) (fun i x H1 e1 hi hx _ => ?_)).imp (fun v H1 H2 e1 e2 h => ?_)
      · cases keys_x hi hx
        obtain ⟨r, hr1, hr2, vr⟩ := R3.get hi
        refine Evl.et_is (Evl.et_test (Evl.ev_op (ev_lenL (K := K) (ev_row (Evl.ev_var rfl) (Evl.ev_var rfl) (.inr ⟨od, e1 _ _ upd_same⟩) vr) (Evl.sq_of (e1 _ _ hr2))) Evl.ev_c rv_I0P)) ?_
        rw [List.length_map]
        by_cases c : 1 < (adj L i).length
        · rw [decide_eq_true c, decide_eq_true (by omega)]
        · rw [decide_eq_false c, decide_eq_false (by omega)]
      · cases keys_x hi hx
        exact Evl.ev_var rfl
      · obtain ⟨p, rfl, hp, k⟩ := h
        refine ⟨p, rfl, hp, fun z => ?_, k⟩
        rw [z, e1 _ _ upd_same] at hp
        cases hp
    · obtain ⟨p, rfl, hp, npd, k⟩ := h
      rw [upd_ne npd] at hp
      exact ⟨p, rfl, hp, by rw [upd_ne npd]; exact k⟩
    · obtain ⟨p, rfl, hp, k2⟩ := h
      exact k p H1 e1 hp k2
theorem ok_are_lanes (T : Txt K mg A) : FnOk P w K mg base CX0 3 A.are_lanes A.are_lanes_fd ["value"] spLanes := by
  refine T.F_are_lanes.ok sc_are_lanes (fun vs H Q E h => ?_) (fun cdv A' outer s H vs Q E hr h => ?_)
  · obtain ⟨L, a, vt, rfl, _⟩ := h
    rfl
  · obtain ⟨L, a, vt, rfl, hL, g, k⟩ := h
    have hu := hu_of hr
    refine ⟨_, (pss_cons (ps_if (PW.pt (pw_or (pt_not (pt_val (pe_call (ok_is_row T) (hr.mono (by decide)) (by rfl) T.m_is_row T.F_is_row.kp T.b_is_row .nil pass0 (pa_cons (pv 0) pa_nil)))) (pw_or1 (pt_not (pt_val (show PE _ _ (tCB (rAll K) _) from (pe_callB (id := "all") (cr_all rfl) (by rfl) T.n_all (by decide +kernel) (pa_cons (pe_lc (own := [("pair", 2)]) rfl sc_are_lanes.nd (show PI _ _ _ (iList K _) from pi_list (pv 0)) (blkOk_by (N := n_are_lanes) (sc := defScope s_are_lanes) (by decide +kernel)) (fun _ _ _ _ _ => (pg_name (i := 2) sc_are_lanes.nd rfl (Or.inl rfl))) (fun _ _ _ _ _ => pts_nil) (fun _ _ _ _ _ => (pe_call (ok_is_pair_up_to T) (hr.mono (by decide)) (by rfl) T.m_is_pair_up_to T.F_is_pair_up_to.kp T.b_is_pair_up_to .nil pass0 (pa_cons (pv 2) (pa_cons (show PE _ _ (tCB (rLenA K) _) from (pe_callB (id := "len") call_len (by rfl) T.n_len (by decide +kernel) (pa_cons (pv 0) pa_nil))) pa_nil))))) pa_nil)))))))) (pss_one (ps_ret pe_bl)) pss_nil) (pss_cons (ps_set (i := 1) sc_are_lanes.nd rfl (Or.inr rfl) (pe_call (ok_neighbours_by_place T) (hr.mono (by decide)) (by rfl) T.m_neighbours_by_place T.F_neighbours_by_place.kp T.b_neighbours_by_place .nil pass0 (pa_cons (pv 0) pa_nil))) (pss_cons (ps_if (pt_cmpR op_lt (show PE _ _ (tCB rLenD _) from pe_callB (id := "len") call_lenD (by rfl) T.n_len (by decide +kernel) (pa_cons (pe_call (ok_places_ahead T) (hr.mono (by decide)) (by rfl) T.m_places_ahead T.F_places_ahead.kp T.b_places_ahead .nil pass0 (pa_cons (pv 1) (pa_cons pe_int pa_nil))) pa_nil)) (show PE _ _ (tCB (rLenA K) _) from (pe_callB (id := "len") call_len (by rfl) T.n_len (by decide +kernel) (pa_cons (pv 0) pa_nil))) (nomark _)) (pss_one (ps_ret pe_bl)) pss_nil) (pss_cons (ps_if (pt_cmpR op_gt (show PE _ _ (tCB (rMax K) _) from (pe_callB (id := "max") (cr_max rfl) (by rfl) T.n_max (by decide +kernel) (pa_cons (pe_lock (pe_lc (own := [("place", 3)]) rfl sc_are_lanes.nd (pi_keys (pv 1)) (blkOk_by (N := n_are_lanes) (sc := defScope s_are_lanes) (by decide +kernel)) (fun _ _ _ _ _ => (pg_name (i := 3) sc_are_lanes.nd rfl (Or.inl rfl))) (fun _ _ _ _ _ => pts_nil) (fun _ _ _ _ _ => (show PE _ _ (tCB (rLenA K) _) from (pe_callB (id := "len") call_len (by rfl) T.n_len (by decide +kernel) (pa_cons (pe_dget hu (pv 1) (pv 3) (fun _ _ => rfl)) pa_nil)))))) pa_nil))) (pe_globI rfl T.g_MOST_LANES_AT_A_PLACE) (nomark _)) (pss_one (ps_ret pe_bl)) pss_nil) (pss_one (ps_ret (pe_chain op_le op_le pe_int (show PE _ _ (tCB (rLenA K) _) from (pe_callB (id := "len") call_len (by rfl) T.n_len (by decide +kernel) (pa_cons (pe_call (ok_yards_among T) (hr.mono (by decide)) (by rfl) T.m_yards_among T.F_yards_among.kp T.b_yards_among .nil pass0 (pa_cons (pv 1) pa_nil)) pa_nil))) (pe_globI rfl T.g_MOST_YARDS)))))))), ?_⟩
    obtain ⟨ls, ha, hp⟩ := id hL
    have hll : ls.length = L.length := PySem.Paired.length hp
    have hsm := g.small
    have hlen : ∀ {σ : L2.St} {H1 : Hp} (i : Nat), σ[i]? = some (some (.ref a)) → Ex H H1 → Ev (tCB (rLenA K) (tCons (tVar i) tNil)) σ H1 (vI L.length) := fun {σ H1} i hv e => by
      have := ev_lenL (K := K) (σ := σ) (H := H1) (Evl.ev_var hv) (Evl.sq_of (e _ _ ha))
      rw [hll] at this
      exact this
    -- all pairs
    refine p_skip (Evl.et_is (Evl.et_or (a := false) (b := false) (Evl.et_is (Evl.et_not (a := true) (evt_P (evp_callA (vs := [.ref a]) (Evl.ea_cons (Evl.ev_var rfl) Evl.ea_nil) (fun H2 e2 Q q => ⟨a, ls, rfl, .inl (e2 _ _ ha), fun H3 e3 => q _ H3 e3 rfl⟩) (fun _ _ _ _ _ _ _ h => h)))) rfl) (fun _ => Evl.et_is (Evl.et_not (a := true) (evt_P (evp_cb1 (lcV (src_list (K := K) (a := a) (xs := ls) (Evl.ev_var rfl) (Evl.sq_of ha)) (by omega) (fun i x => [some (.ref a), none, some x, none]) (fun _ _ => rfl) (fun _ _ _ _ _ _ _ q => q) (fun _ => true) (fun _ => .bl true) (fun _ _ _ _ _ _ => fun H1 e Q q => q H1 (Ex.refl _)) (fun i x H1 e1 hi hx _ => ?_)) (fun v H1 H2 e1 e2 h Q q => ?_)))) rfl)) rfl) fun H1 e1 => ?_
    · obtain ⟨p, hpi, t, rfl, ht⟩ := paired_ix hp hx
      obtain ⟨b1, b2⟩ := g.bound p (List.mem_of_getElem? hpi)
      refine ev_evp (evp_callA (vs := [.ref t, vI L.length]) (Evl.ea_cons (Evl.ev_var rfl) (Evl.ea_cons (hlen 0 rfl e1) Evl.ea_nil)) (fun H2 e2 Q q => ⟨t, p, L.length, rfl, (e1.trans e2) _ _ ht, fun H3 e3 => q _ H3 e3 ?_⟩) (fun _ _ _ _ _ _ _ h => h))
      show V.bl _ = V.bl true
      rw [decide_eq_true b1, decide_eq_true b2]
      rfl
    · obtain ⟨D, rfl, hD0, hD⟩ := h
      refine ⟨D, ((List.range ls.length).filter fun _ => true).map fun _ => true, rfl, Evl.sq_of (by rw [hD, List.map_map]; rfl), q _ _ (Ex.refl _) ?_⟩
      show V.bl _ = V.bl true
      congr 1
      rw [List.all_eq_true]
      intro x hx
      obtain ⟨_, _, e⟩ := List.mem_map.mp hx
      rw [← e]
      rfl
    -- around = ..
    refine p_asg (evp_callA (vs := [.ref a]) (P := fun v Ha Hb => ∃ p, v = .ref p ∧ Ha p = none ∧ AroundAt Hb p (L.length + 1) (adj L)) (Evl.ea_cons (Evl.ev_var rfl) Evl.ea_nil) (fun H2 e2 Q q => ⟨a, L, rfl, hL.ex (e1.trans e2), g.bound, hsm, fun p H3 e3 hp hA => q _ H3 e3 ⟨p, rfl, hp, hA⟩⟩) (fun v H1 H2 H3 _ e2 _ h => by
      obtain ⟨p, r, hp, hA⟩ := h
      exact ⟨p, r, Evl.fresh_back e2 hp, hA⟩)) fun v H2 e2 h => ?_
    obtain ⟨d, rfl, hd0, hA⟩ := h
    -- as many places ahead as lanes
    have e12 := e1.trans e2
    refine p_skip (Evl.et_is (Evl.et_test (Evl.ev_op (x := vI L.length) (y := vI L.length) (ev_evp (evp_cb1 (evp_callA (vs := [.ref d, vI 0]) (P := fun v _ Hb => ∃ p kvs, v = .ref p ∧ Ahead L 0 kvs ∧ Hb p = some (kvO kvs)) (Evl.ea_cons (Evl.ev_var rfl) (Evl.ea_cons Evl.ev_c Evl.ea_nil)) (fun H3 e3 Q q => ⟨L, d, 0, vt, rfl, g.tr, (hA.ex e3).r, g.zero, fun v hv => (g.vs_ v).mp hv, hsm, fun p H4 kvs e4 _ hk hp => q _ H4 e4 ⟨p, kvs, rfl, hk, hp⟩⟩) (fun _ _ _ _ _ _ _ h => h)) (fun v H1 H2 _ _ h Q q => ?_))) (hlen 0 rfl e12) rv_I0P)) ?_) fun H3 e3 => ?_
    · obtain ⟨p, kvs, rfl, hk, hp⟩ := h
      refine ⟨p, _, rfl, hp, q _ _ (Ex.refl _) ?_⟩
      rw [List.length_map, hk.count g.tr g.zero]
      rfl
    · exact decide_eq_false (by omega)
    -- at most four lanes at each
    have hA3 := hA.ex e3
    obtain ⟨rs, hd, R⟩ := id hA3
    refine p_skip (evt_leC (evp_cb1 (evp_lock (d := d) (u := dkOf (L.length + 1) rs) hd trivial (P := fun v Ha Hb => ∃ p, v = .ref p ∧ p ≠ d ∧ Hb p = some (.lst (((List.range (L.length + 1)).filter fun _ => true).map fun i => .int ((adj L i).length : Int))))
      (P' := fun v _ Hb => ∃ p, v = .ref p ∧ Hb p = some (.lst (((List.range (L.length + 1)).filter fun _ => true).map fun i => .int ((adj L i).length : Int)))) (fun Ha od ea => ?_) (fun v Ha Hb od ea eb h => ?_)) (fun v H1 H2 _ _ h Q q => ?_))) fun H4 e4 => ?_
    · have R3 := (R.ex ea).lock (ea _ _ hd) od
      refine (lcV (src_rows R.len (Evl.ev_var (v := .ref d) rfl) upd_same) (by omega) (fun i x => [some (.ref a), some (.ref d), none, some x]) (fun _ _ => rfl) (fun _ _ _ _ _ _ _ q => q) (fun _ => true) (fun i => .int ((adj L i).length : Int)) (fun _ _ _ _ _ _ => fun H1 e Q q => q H1 (Ex.refl _)) (fun i x H1 e1 hi hx _ => ?_)).imp (fun v H1 H2 e1 e2 h => ?_)
      · cases keys_x hi hx
        obtain ⟨r, hr1, hr2, vr⟩ := R3.get hi
        have := ev_lenL (K := K) (ev_row (td := tVar 1) (tk := tVar 3) (σ := [some (.ref a), some (.ref d), none, some (vI i)]) (H := H1) (Evl.ev_var rfl) (Evl.ev_var rfl) (.inr ⟨od, e1 _ _ upd_same⟩) vr) (Evl.sq_of (e1 _ _ hr2))
        rw [List.length_map] at this
        exact this
      · obtain ⟨p, rfl, hp, k⟩ := h
        refine ⟨p, rfl, fun z => ?_, k⟩
        rw [z, e1 _ _ upd_same] at hp
        cases hp
    · obtain ⟨p, rfl, npd, k⟩ := h
      exact ⟨p, rfl, by rw [upd_ne npd]; exact k⟩
    · obtain ⟨p, rfl, hp⟩ := h
      refine ⟨p, ((List.range (L.length + 1)).filter fun _ => true).map fun i => ((adj L i).length : Int), rfl, Evl.sq_of (by rw [hp, List.map_map]; rfl), ?_, fun m hm _ => q _ _ (Ex.refl _) ⟨m, rfl, ?_⟩⟩
      · have : ((List.range (L.length + 1)).filter fun _ => true) = List.range (L.length + 1) := List.filter_eq_self.mpr fun _ _ => rfl
        rw [List.length_map, this, List.length_range]
        omega
      · obtain ⟨i, _, e⟩ := List.mem_map.mp hm
        have := g.deg i
        omega
    -- 1 <= len(yards_among(around)) <= 7
    have hA4 := hA3.ex e4
    have hy : Ev (tCB (rLenA K) (tCons (tCall spYards [] E0 (tCons (tVar 1) tNil)) tNil)) [some (.ref a), some (.ref d), none, none] H4 (vI (yardsL L).length) := by
      have := ev_lenP (K := K) (xs := vIs (yardsL L)) (evp_callA (σ := [some (.ref a), some (.ref d), none, none]) (H := H4) (sp := spYards) (E := E0) (dvs := []) (vs := [.ref d]) (ta := tCons (tVar 1) tNil) (P := fun v _ Hb => ∃ p, v = .ref p ∧ Hb p = some (.lst (vIs (yardsL L)))) (Evl.ea_cons (Evl.ev_var rfl) Evl.ea_nil) (fun H2 e2 Q q => ⟨L, d, rfl, hA4.ex e2, hsm, fun p H3 e3 _ hp => q _ H3 e3 ⟨p, rfl, hp⟩⟩) (fun _ _ _ _ _ _ _ h => h))
      rw [List.length_map] at this
      exact this
    refine hy H4 (Ex.refl _) _ fun H5 e5 => ?_
    have h1 := g.least
    have h2 := g.most
    refine ⟨1, _, rfl, rfl, true, ?_, iteT ?_⟩
    · show V.bl (decide _) = _
      rw [decide_eq_true (by omega)]
    · refine ⟨_, 7, rfl, rfl, ?_⟩
      have z := k H5 ((e12.trans e3).trans (e4.trans e5))
      show Q (V.bl (decide _)) H5
      rw [decide_eq_true (by omega)]
      exact z
end
end K26

set_option Elab.async false
set_option linter.all false
set_option maxRecDepth 100000
set_option maxHeartbeats 4000000
namespace Pr
open PySem PySem.Spec PyProof.Rows L2 TM
open Evl (Ex)
def pairOf (H : Hp) : V → Int × Int
  | .ref t => match H t with
    | some (.tup [.int a, .int b]) => (a, b)
    | _ => (0, 0)
  | _ => (0, 0)
theorem pairOf_at {H : Hp} {v : V} {q : Nat × Nat} (h : PairAt H v q) : pairOf H v = ((q.1 : Int), (q.2 : Int)) := by
  obtain ⟨t, rfl, e⟩ := h
  unfold pairOf
  simp only [e]
theorem paired_map {α β : Type} {R : α → β → Prop} {f : α → β} : ∀ {xs : List α}, (∀ x ∈ xs, R x (f x)) → Paired R xs (xs.map f)
  | [], _ => .nil
  | x :: xs, h => .cons (h x List.mem_cons_self) (paired_map fun y hy => h y (List.mem_cons_of_mem _ hy))
theorem map_paired {α β : Type} {R : α → β → Prop} {f : α → β} (k : ∀ x y, R x y → f x = y) : ∀ {xs : List α} {ys : List β}, Paired R xs ys → xs.map f = ys
  | _, _, .nil => rfl
  | _, _, .cons h t => by rw [List.map_cons, k _ _ h, map_paired k t]
theorem paired_mem {α β : Type} {R : α → β → Prop} : ∀ {xs : List α} {ys : List β} {x : α}, Paired R xs ys → x ∈ xs → ∃ y, R x y
  | _, _, x, .nil, h => nomatch h
  | _, _, x, .cons (a := a) r t, h => by
    rcases List.mem_cons.mp h with e | h
    · exact ⟨_, e ▸ r⟩
    · exact paired_mem t h
end Pr
namespace K26
open PySem PySem.Spec PyProof.Rows L2 TM Pr Ep
open Evl (Ex Ev EvT EvA EvL)
section
variable {P : Program} {w : World} {K : PySem.W.Frag} {mg : Str → Option Value} {base : Heap} {A : Adr}
theorem ok_Country_init (T : Txt K mg A) : FnOk P w K mg base CX0 4 A.Country_init A.Country_init_fd ["self", "lanes"] (spInit A.Country) := by
  refine T.F_Country_init.ok sc_Country_init (fun vs H Q E h => ?_) (fun cdv A' outer s H vs Q E hr h => ?_)
  · obtain ⟨L, p, dx, a, vt, rfl, _⟩ := h
    rfl
  · obtain ⟨L, p, dx, a, vt, rfl, ho, hL, g, k⟩ := h
    have hu := hu_of hr
    refine ⟨_, (pss_cons (ps_if (pt_not (pt_val (pe_call (ok_are_lanes T) (hr.mono (by decide)) (by rfl) T.m_are_lanes T.F_are_lanes.kp T.b_are_lanes .nil pass0 (pa_cons (pv 1) pa_nil)))) (pss_one ps_never) pss_nil) (pss_cons (ps_fld (pv 0) (show PE _ _ (tCB (rSortedPO K) _) from (pe_callB (id := "sorted") cr_sortedPO (by rfl) T.n_sorted (by decide +kernel) (pa_cons (pe_lc (own := [("pair", 2)]) rfl sc_Country_init.nd (show PI _ _ _ (iList K _) from pi_list (pv 1)) (blkOk_by (N := n_Country_init) (sc := defScope s_Country_init) (by decide +kernel)) (fun _ _ _ _ _ => (pg_name (i := 2) sc_Country_init.nd rfl (Or.inl rfl))) (fun _ _ _ _ _ => pts_nil) (fun _ _ _ _ _ => (pe_tup (pa_cons (pe_callB (id := "min") (call_min2 rfl) (by rfl) T.n_min (by decide +kernel) (pa_cons (show PE _ _ (tOp (rIxT K) _ _) from pe_ix ix_tup (pv 2) pe_int (fun _ _ => rfl)) (pa_cons (show PE _ _ (tOp (rIxT K) _ _) from pe_ix ix_tup (pv 2) pe_int (fun _ _ => rfl)) pa_nil))) (pa_cons (pe_callB (id := "max") (call_max2 rfl) (by rfl) T.n_max (by decide +kernel) (pa_cons (show PE _ _ (tOp (rIxT K) _ _) from pe_ix ix_tup (pv 2) pe_int (fun _ _ => rfl)) (pa_cons (show PE _ _ (tOp (rIxT K) _ _) from pe_ix ix_tup (pv 2) pe_int (fun _ _ => rfl)) pa_nil))) pa_nil))))) pa_nil))) rfl) (pss_cons (ps_fld (pv 0) (pe_call (ok_neighbours_by_place T) (hr.mono (by decide)) (by rfl) T.m_neighbours_by_place T.F_neighbours_by_place.kp T.b_neighbours_by_place .nil pass0 (pa_cons (show PE _ _ (tFld K _ _) from pe_fld (pv 0) rfl) pa_nil)) rfl) (pss_cons (ps_fld (pv 0) (pe_lock (pe_dc (own := [("goal", 3)]) rfl sc_Country_init.nd (pi_keys (show PE _ _ (tFld K _ _) from pe_fld (pv 0) rfl)) (blkOk_by (N := n_Country_init) (sc := defScope s_Country_init) (by decide +kernel)) (fun _ _ _ _ _ => (pg_name (i := 3) sc_Country_init.nd rfl (Or.inl rfl))) (fun _ _ _ _ _ => pts_nil) (fun _ _ _ _ _ => (pv 3)) (fun _ _ _ _ _ => (pe_call (ok_places_ahead T) (hr.mono (by decide)) (by rfl) T.m_places_ahead T.F_places_ahead.kp T.b_places_ahead .nil pass0 (pa_cons (show PE _ _ (tFld K _ _) from pe_fld (pv 0) rfl) (pa_cons (pv 3) pa_nil)))))) rfl) (pss_cons (ps_fld (pv 0) (pe_call (ok_yards_among T) (hr.mono (by decide)) (by rfl) T.m_yards_among T.F_yards_among.kp T.b_yards_among .nil pass0 (pa_cons (show PE _ _ (tFld K _ _) from pe_fld (pv 0) rfl) pa_nil)) rfl) (pss_one (ps_fld (pv 0) (pe_lock (pe_lc (own := [("place", 4)]) rfl sc_Country_init.nd (pi_keys (show PE _ _ (tFld K _ _) from pe_fld (pv 0) rfl)) (blkOk_by (N := n_Country_init) (sc := defScope s_Country_init) (by decide +kernel)) (fun _ _ _ _ _ => (pg_name (i := 4) sc_Country_init.nd rfl (Or.inl rfl))) (fun _ _ _ _ _ => (pts_one (pt_cmpR op_eq (show PE _ _ (tCB (rLenA K) _) from (pe_callB (id := "len") call_len (by rfl) T.n_len (by decide +kernel) (pa_cons (pe_dget hu (show PE _ _ (tFld K _ _) from pe_fld (pv 0) rfl) (pv 4) (fun _ _ => rfl)) pa_nil))) pe_int (nomark _)))) (fun _ _ _ _ _ => (pv 4)))) rfl))))))), ?_⟩
    have hsm := g.small
    have hn : ∀ {b : Addr} {o : HO}, H b = some o → (∀ C dx fs, o ≠ .ins C dx fs) → but H p b = some o := fun {b o} h n => but_ne h (ne_of h ho (n _ _ _))
    have hL0 : LanesAt (but H p) a L := by
      obtain ⟨ls, ha, hp⟩ := hL
      refine ⟨ls, hn ha (fun _ _ _ z => nomatch z), paired_imp (fun v q ⟨t, r, e⟩ => ⟨t, r, hn e (fun _ _ _ z => nomatch z)⟩) hp⟩
    have fp : but H p p = none := but_at
    have hx0 : ∀ b o, H b = some o → b ≠ p → but H p b = some o := fun b o h n => but_ne h n
    have x0 : Ex (but H p) H := but_ex
    generalize but H p = H0 at hL0 fp x0 hn hx0
    obtain ⟨ls, ha0, hp0⟩ := id hL0
    have hll : ls.length = L.length := PySem.Paired.length hp0
    -- if not are_lanes(lanes)
    refine p_skip (Evl.et_is (Evl.et_not (a := true) (evt_P (evp_callA (vs := [.ref a]) (Evl.ea_cons (Evl.ev_var rfl) Evl.ea_nil) (fun H2 e2 Q q => ⟨L, a, vt, rfl, hL.ex e2, g, fun H3 e3 => q _ H3 e3 rfl⟩) (fun _ _ _ _ _ _ _ h => h)))) rfl) fun H1 e1 => ?_
    have x1 := x0.trans e1
    have ho1 := e1 _ _ ho
    -- self._lanes
    refine p_fld (i := 0) (p := p) (P := fun v _ Hb => ∃ l M, v = .ref l ∧ LanesAt Hb l M ∧ M.Perm (norm L) ∧ LexS M) (evp_cb1 (P := fun v Ha Hb => ∃ D ys, v = .ref D ∧ Hb D = some (.lst ys) ∧ Paired (PairAt Hb) ys (norm L)) ?_ (fun v Ha Hb _ _ h Q q => ?_)) rfl ho1 T.cl_Country T.na_Country_lanes (by decide) fun v H2 e2 h => ?_
    · refine (lcI (src_list (K := K) (a := a) (xs := ls) (Evl.ev_var rfl) (Evl.sq_of (x1 _ _ ha0))) (by omega) (fun i x => [some (.ref p), some (.ref a), some x, none, none]) (fun _ _ => rfl)
        (fun D i ys H' => Paired (fun v q => ∃ t, t ≠ D ∧ v = .ref t ∧ H' t = some (.tup [vI q.1, vI q.2])) ys (norm (L.take i))) (fun _ _ _ _ _ _ _ q => q) (fun _ => true) (fun _ _ _ _ _ _ => fun H1 e Q q => q H1 (Ex.refl _))
        (fun i v Ha Hb => ∃ q t, L[i]? = some q ∧ v = .ref t ∧ Ha t = none ∧ Hb t = some (.tup [vI (norm1 q).1, vI (norm1 q).2])) (fun i x Ha ea hi hx _ => ?_) (fun D Ha _ _ => .nil) (fun D i ys Ha Hb e h => ?_) (fun D i ys Ha xs _ h => ?_) (fun D i ys v Ha Hb _ eab hD hi _ h hq xs => ?_) (fun _ _ _ _ _ _ h => nomatch h)).imp (fun v Ha Hb _ _ h => ?_)
      · obtain ⟨q, hq, t, rfl, ht⟩ := paired_ix hp0 hx
        have ht1 := ea _ _ (x1 _ _ ht)
        have i0 : ∀ {σ : L2.St} {H5 : Hp}, σ[2]? = some (some (.ref t)) → Ex Ha H5 → Ev (tOp (rIxT K) (tVar 2) (tC (.int 0))) σ H5 (vI q.1) := fun hs e => Evl.ev_op (Evl.ev_var hs) Evl.ev_c (Evl.rv_ixT (Evl.st_of (e _ _ ht1)) (at_of (j := 0) rfl rfl))
        have i1 : ∀ {σ : L2.St} {H5 : Hp}, σ[2]? = some (some (.ref t)) → Ex Ha H5 → Ev (tOp (rIxT K) (tVar 2) (tC (.int 1))) σ H5 (vI q.2) := fun hs e => Evl.ev_op (Evl.ev_var hs) Evl.ev_c (Evl.rv_ixT (Evl.st_of (e _ _ ht1)) (at_of (j := 1) rfl rfl))
        refine (evp_tup (vs := [vI (norm1 q).1, vI (norm1 q).2]) (Evl.ea_cons (ev_cb2 (i0 rfl (Ex.refl _)) (i1 rfl (Ex.refl _)) fun H7 e7 Q z => ⟨_, _, rfl, ?_⟩) (Evl.ea_cons (ev_cb2 (i0 rfl (Ex.refl _)) (i1 rfl (Ex.refl _)) fun H7 e7 Q z => ⟨_, _, rfl, ?_⟩) Evl.ea_nil)) (by show 2 ≤ 100000; decide)).imp fun v Hc Hd _ _ h => ?_
        · obtain ⟨t2, r, h1, h2⟩ := h
          exact ⟨q, t2, hq, r, h1, h2⟩
        · have e : (if (q.2 : Int) < (q.1 : Int) then (q.2 : Int) else (q.1 : Int)) = ((norm1 q).1 : Int) := by
            unfold norm1
            split <;> simp only [Nat.min_def] <;> split <;> omega
          rw [e]
          exact z
        · have e : (if (q.2 : Int) > (q.1 : Int) then (q.2 : Int) else (q.1 : Int)) = ((norm1 q).2 : Int) := by
            unfold norm1
            split <;> simp only [Nat.max_def] <;> split <;> omega
          rw [e]
          exact z
      · exact paired_imp (fun v q ⟨t, n, r, h⟩ => ⟨t, n, r, e _ _ h⟩) h
      · exact paired_imp (fun v q ⟨t, n, r, h⟩ => ⟨t, n, r, by rw [upd_ne n]; exact h⟩) h
      · obtain ⟨q, t, hq1, rfl, ht1, ht2⟩ := hq
        have nt : t ≠ D := fun z => by rw [z, hD] at ht1; cases ht1
        have e : norm (L.take (i + 1)) = norm (L.take i) ++ [norm1 q] := by
          rw [take_more hq1]
          unfold norm
          rw [List.map_append]
          rfl
        rw [e]
        exact Paired.snoc (paired_imp (fun v q ⟨t', n, r, h⟩ => ⟨t', n, r, by rw [upd_ne n]; exact eab _ _ h⟩) h) ⟨t, nt, rfl, by rw [upd_ne nt]; exact ht2⟩
      · obtain ⟨D, ys, rfl, _, hD, _, h⟩ := h
        rw [hll, List.take_length] at h
        exact ⟨D, ys, rfl, hD, paired_imp (fun v q ⟨t, _, r, h⟩ => ⟨t, r, h⟩) h⟩
    · obtain ⟨D, ys, rfl, hD, hp⟩ := h
      refine ⟨D, ys, pairOf Hb, rfl, Evl.sq_of hD, fun x hx => ?_, fun zs l sd st hl => ?_⟩
      · obtain ⟨q, hq⟩ := paired_mem hp hx
        have e := pairOf_at hq
        obtain ⟨t, r, h⟩ := hq
        exact ⟨t, r, by rw [e]; exact h⟩
      · let f : V → Nat × Nat := fun v => ((pairOf Hb v).1.toNat, (pairOf Hb v).2.toNat)
        have f_at : ∀ v q, PairAt Hb v q → f v = q := fun v q h => by
          show ((pairOf Hb v).1.toNat, (pairOf Hb v).2.toNat) = q
          rw [pairOf_at h]
          simp
        have em : ys.map f = norm L := map_paired f_at hp
        refine q _ _ (Ex.new hl) ⟨l, zs.map f, rfl, ⟨zs, upd_same, paired_map fun x hx => ?_⟩, ?_⟩
        · obtain ⟨q', hq'⟩ := paired_mem hp (st.perm.mem_iff.mp hx)
          rw [f_at x q' hq']
          exact hq'.ex (Ex.new hl)
        · refine ⟨by rw [← em]; exact st.perm.map f, ?_⟩
          have h2 : ∀ x ∈ zs, ∃ q, PairAt Hb x q := fun x hx => (paired_mem hp (st.perm.mem_iff.mp hx))
          have h3 := List.Pairwise.and_mem.mp sd
          refine List.pairwise_map.mpr (h3.imp fun {x y} ⟨hx, hy, z⟩ => ?_)
          obtain ⟨p1, k1⟩ := h2 x hx
          obtain ⟨p2, k2⟩ := h2 y hy
          rw [f_at x p1 k1, f_at y p2 k2]
          have z' := SrtO.lexB_no.mp z
          rw [pairOf_at k1, pairOf_at k2] at z'
          unfold lexLe
          simp only at z'
          omega
    obtain ⟨l, M, rfl, hM, pM, sM⟩ := h
    have x2 := x1.trans e2
    have ho2 := e2 _ _ ho1
    rw [pf1]
    have nM : ∀ i, (nb M i).Perm (nb L i) := fun i => (nb_perm pM i).trans (nb_norm L i)
    have lM : M.length = L.length := by rw [pM.length_eq]; unfold norm; rw [List.length_map]
    have gM := g.same nM lM
    have y2 : Ki H2 (upd H2 p (.ins A.Country dx (g1 (.ref l)))) := .put ho2
    have x3 : Ex H0 (upd H2 p (.ins A.Country dx (g1 (.ref l)))) := Ex.mut x2 fp
    have ho3 : (upd H2 p (.ins A.Country dx (g1 (.ref l)))) p = some (.ins A.Country dx (g1 (.ref l))) := upd_same
    generalize upd H2 p (.ins A.Country dx (g1 (.ref l))) = H3 at y2 x3 ho3
    have hM3 := hM.ki y2
    -- self._around
    refine p_fld (i := 0) (p := p) (P := fun v Ha Hb => ∃ d, v = .ref d ∧ AroundAt Hb d (L.length + 1) (adj L)) (evp_callA (vs := [.ref l]) (Evl.ea_cons (ev_fld (v := .ref l) rfl ho3 T.cl_Country T.na_Country_lanes (by rfl)) Evl.ea_nil) (fun H4 e4 Q q => ⟨l, M, rfl, hM3.ex e4, gM.bound, gM.small, fun d H5 e5 _ hA => q _ H5 e5 ⟨d, rfl, by rw [lM, adj_of nM] at hA; exact hA⟩⟩) (fun _ _ _ _ _ _ _ h => h)) rfl ho3 T.cl_Country T.na_Country_around (by show 1 < 1000; decide) fun v H4 e4 h => ?_
    obtain ⟨d, rfl, rs, hd, R⟩ := h
    have ho4 := e4 _ _ ho3
    rw [pf2]
    have y4 : Ki H4 (upd H4 p (.ins A.Country dx (g2 (.ref l) (.ref d)))) := .put ho4
    have x5 : Ex H0 (upd H4 p (.ins A.Country dx (g2 (.ref l) (.ref d)))) := Ex.mut (x3.trans e4) fp
    have ho5 : (upd H4 p (.ins A.Country dx (g2 (.ref l) (.ref d)))) p = some (.ins A.Country dx (g2 (.ref l) (.ref d))) := upd_same
    generalize upd H4 p (.ins A.Country dx (g2 (.ref l) (.ref d))) = H5 at y4 x5 ho5
    have hM5 := (hM3.ex e4).ki y4
    have hd5 := y4 _ _ hd dkOf_ni
    have R5 := R.ki y4
    have npd : p ≠ d := ne_of ho5 hd5 (fun z => nomatch z)
    -- self._ahead
    refine p_fld (i := 0) (p := p) (P := fun v Ha Hb => ∃ e qs, v = .ref e ∧ Hb e = some (dkOf (L.length + 1) qs) ∧ qs.length = L.length + 1 ∧ ∀ (i : Nat) (q : Addr), qs[i]? = some q → ∃ kvs, Ahead L i kvs ∧ Hb q = some (kvO kvs)) (evp_lock (d := d) (u := dkOf (L.length + 1) rs) hd5 trivial (P := fun v Ha Hb => ∃ e qs, v = .ref e ∧ e ≠ d ∧ Hb e = some (dkOf (L.length + 1) qs) ∧ qs.length = L.length + 1 ∧ ∀ (i : Nat) (q : Addr), qs[i]? = some q → q ≠ d ∧ ∃ kvs, Ahead L i kvs ∧ Hb q = some (kvO kvs)) (fun Ha od ea => ?_) (fun v Ha Hb od ea eb h => ?_)) rfl ho5 T.cl_Country T.na_Country_ahead (by show 2 < 1000; decide) fun v H6 e6 h => ?_
    · have R6 := (R5.ex ea).lock (ea _ _ hd5) od
      have hoA : (upd Ha d (.frz od (dkOf (L.length + 1) rs))) p = some (.ins A.Country dx (g2 (.ref l) (.ref d))) := by rw [upd_ne npd]; exact ea _ _ ho5
      refine (dcI (src_rows R5.len (ev_fld (v := .ref d) rfl hoA T.cl_Country T.na_Country_around (by rfl)) upd_same) (by omega) (fun i x => [some (.ref p), some (.ref a), none, some x, none]) (fun _ _ => rfl)
        (fun D i ys H' => D ≠ d ∧ ∃ qs : List Addr, ys = qs.map V.ref ∧ qs.length = i ∧ ∀ (j : Nat) (q : Addr), qs[j]? = some q → q ≠ D ∧ q ≠ d ∧ ∃ kvs, Ahead L j kvs ∧ H' q = some (kvO kvs)) (fun _ _ _ _ _ _ _ q => q) keyN (fun i j h1 h2 e => ?_) (fun i x H1 _ hi hx => ?_) (fun i v Ha Hb => ∃ q kvs, v = .ref q ∧ Ha q = none ∧ Ahead L i kvs ∧ Hb q = some (kvO kvs)) (fun i x H1 e4 hi hx => ?_) (fun D H1 e4 hD => ?_) (fun D i ys Ha Hb e h => ?_) (fun D i ys v Ha' Hb' kvs e4 e5 hD hi h p xs => ?_)).imp ?_
      · injection e with e
        omega
      · cases keys_x hi hx
        exact Evl.ev_var rfl
      · cases keys_x hi hx
        refine evp_callA (vs := [.ref d, vI i]) (Evl.ea_cons (ev_fld (v := .ref d) rfl (e4 _ _ hoA) T.cl_Country T.na_Country_around (by rfl)) (Evl.ea_cons (Evl.ev_var rfl) Evl.ea_nil)) (fun H2 e2 Q q => ⟨L, d, i, vt, rfl, g.tr, ⟨rs, .inr ⟨od, e2 _ _ (e4 _ _ upd_same)⟩, (R6.ex e4).ex e2⟩, (g.vs_ i).mpr hi, fun v hv => (g.vs_ v).mp hv, hsm, fun p H3 kvs e3 hp hk hq => q _ H3 e3 ⟨p, kvs, rfl, hp, hk, hq⟩⟩) (fun v Hx Hy Hz _ eb _ h => ?_)
        obtain ⟨q, kvs, h1, h2, h3, h4⟩ := h
        exact ⟨q, kvs, h1, Evl.fresh_back eb h2, h3, h4⟩
      · refine ⟨fun z => ?_, [], rfl, rfl, (fun j r hr => by simp at hr)⟩
        subst z
        rw [e4 _ _ upd_same] at hD
        cases hD
      · obtain ⟨h0, qs, h1, h2, h3⟩ := h
        refine ⟨h0, qs, h1, h2, fun j r hr => ?_⟩
        obtain ⟨b1, b2, kvs, b3, b4⟩ := h3 j r hr
        exact ⟨b1, b2, kvs, b3, e _ _ b4⟩
      · obtain ⟨h0, qs, h1, h2, h3⟩ := h
        obtain ⟨q, kvs', rfl, hq, hk, hq2⟩ := p
        have qD : q ≠ D := fun z => by rw [z, hD] at hq; cases hq
        have qd : q ≠ d := fun z => by rw [z, e4 _ _ upd_same] at hq; cases hq
        refine ⟨h0, qs ++ [q], by rw [h1, List.map_append]; rfl, by simp [h2], fun j r hr => ?_⟩
        by_cases hj : j < qs.length
        · rw [List.getElem?_append_left hj] at hr
          obtain ⟨b1, b2, kvs, b3, b4⟩ := h3 j r hr
          exact ⟨b1, b2, kvs, b3, by rw [upd_ne b1]; exact e5 _ _ b4⟩
        · rw [List.getElem?_append_right (by omega)] at hr
          have e0 : j - qs.length = 0 := by
            have := (List.getElem?_eq_some_iff.mp hr).1
            simp at this
            omega
          rw [e0] at hr
          have : q = r := Option.some.inj hr
          subst this
          have ej : j = i := by omega
          subst ej
          exact ⟨qD, qd, kvs', hk, by rw [upd_ne qD]; exact hq2⟩
      · rintro v Hx Hy e4 e5 ⟨e, ys, rfl, he0, he1, hl, ned, qs, rfl, hql, h3⟩
        exact ⟨e, qs, rfl, ned, he1, hql, fun j q hq => (h3 j q hq).2⟩
    · obtain ⟨e, qs, rfl, ned, h1, h2, h3⟩ := h
      refine ⟨e, qs, rfl, by rw [upd_ne ned]; exact h1, h2, fun i q hq => ?_⟩
      obtain ⟨b1, kvs, b2, b3⟩ := h3 i q hq
      exact ⟨kvs, b2, by rw [upd_ne b1]; exact b3⟩
    obtain ⟨e, qs, rfl, he, hql, hqs⟩ := h
    have ho6 := e6 _ _ ho5
    rw [pf3]
    have y6 : Ki H6 (upd H6 p (.ins A.Country dx (g3 (.ref l) (.ref d) (.ref e)))) := .put ho6
    have x7 : Ex H0 (upd H6 p (.ins A.Country dx (g3 (.ref l) (.ref d) (.ref e)))) := Ex.mut (x5.trans e6) fp
    have ho7 : (upd H6 p (.ins A.Country dx (g3 (.ref l) (.ref d) (.ref e)))) p = some (.ins A.Country dx (g3 (.ref l) (.ref d) (.ref e))) := upd_same
    generalize upd H6 p (.ins A.Country dx (g3 (.ref l) (.ref d) (.ref e))) = H7 at y6 x7 ho7
    have hM7 := (hM5.ex e6).ki y6
    have hd7 := y6 _ _ (e6 _ _ hd5) dkOf_ni
    have R7 := (R5.ex e6).ki y6
    have he7 := y6 _ _ he dkOf_ni
    have hq7 : ∀ (i : Nat) (q : Addr), qs[i]? = some q → ∃ kvs, Ahead L i kvs ∧ H7 q = some (kvO kvs) := fun i q hq => by
      obtain ⟨kvs, b1, b2⟩ := hqs i q hq
      exact ⟨kvs, b1, y6 _ _ b2 dK_ni⟩
    -- self._yards
    refine p_fld (i := 0) (p := p) (P := fun v Ha Hb => ∃ y, v = .ref y ∧ Hb y = some (.lst (vIs (yardsL L)))) (evp_callA (vs := [.ref d]) (Evl.ea_cons (ev_fld (v := .ref d) rfl ho7 T.cl_Country T.na_Country_around (by rfl)) Evl.ea_nil) (fun H4 e4 Q q => ⟨L, d, rfl, ⟨rs, e4 _ _ hd7, R7.ex e4⟩, hsm, fun y H5 e5 _ hy => q _ H5 e5 ⟨y, rfl, hy⟩⟩) (fun _ _ _ _ _ _ _ h => h)) rfl ho7 T.cl_Country T.na_Country_yards (by show 3 < 1000; decide) fun v H8 e8 h => ?_
    obtain ⟨y, rfl, hy⟩ := h
    have ho8 := e8 _ _ ho7
    rw [pf4]
    have y8 : Ki H8 (upd H8 p (.ins A.Country dx (g4 (.ref l) (.ref d) (.ref e) (.ref y)))) := .put ho8
    have x9 : Ex H0 (upd H8 p (.ins A.Country dx (g4 (.ref l) (.ref d) (.ref e) (.ref y)))) := Ex.mut (x7.trans e8) fp
    have ho9 : (upd H8 p (.ins A.Country dx (g4 (.ref l) (.ref d) (.ref e) (.ref y)))) p = some (.ins A.Country dx (g4 (.ref l) (.ref d) (.ref e) (.ref y))) := upd_same
    generalize upd H8 p (.ins A.Country dx (g4 (.ref l) (.ref d) (.ref e) (.ref y))) = H9 at y8 x9 ho9
    have hM9 := (hM7.ex e8).ki y8
    have hd9 := y8 _ _ (e8 _ _ hd7) dkOf_ni
    have R9 := (R7.ex e8).ki y8
    have he9 := y8 _ _ (e8 _ _ he7) dkOf_ni
    have hy9 := y8 _ _ hy lst_ni
    have hq9 : ∀ (i : Nat) (q : Addr), qs[i]? = some q → ∃ kvs, Ahead L i kvs ∧ H9 q = some (kvO kvs) := fun i q hq => by
      obtain ⟨kvs, b1, b2⟩ := hq7 i q hq
      exact ⟨kvs, b1, y8 _ _ (e8 _ _ b2) dK_ni⟩
    have npd9 : p ≠ d := npd
    -- self._gates
    refine p_fld1 (i := 0) (p := p) (P := fun v Ha Hb => ∃ y, v = .ref y ∧ Hb y = some (.lst (vIs (gatesL L)))) (evp_lock (d := d) (u := dkOf (L.length + 1) rs) hd9 trivial (P := fun v Ha Hb => ∃ p, v = .ref p ∧ p ≠ d ∧ Hb p = some (.lst (vIs (gatesL L)))) (fun Ha od ea => ?_) (fun v Ha Hb od ea eb h => ?_)) rfl ho9 T.cl_Country T.na_Country_gates (by show 4 < 1000; decide) fun v H10 e10 h => ?_
    · have R3 := (R9.ex ea).lock (ea _ _ hd9) od
      have hoA : (upd Ha d (.frz od (dkOf (L.length + 1) rs))) p = some (.ins A.Country dx (g4 (.ref l) (.ref d) (.ref e) (.ref y))) := by rw [upd_ne npd]; exact ea _ _ ho9
      refine (lcV (src_rows R9.len (ev_fld (v := .ref d) rfl hoA T.cl_Country T.na_Country_around (by rfl)) upd_same) (by omega) (fun i x => [some (.ref p), some (.ref a), none, none, some x]) (fun _ _ => rfl) (fun _ _ _ _ _ _ _ q => q) (fun i => decide ((adj L i).length = 1)) (fun i => vI i) (fun i x H1 e1 hi hx => ?_) (fun i x H1 e1 hi hx _ => ?_)).imp (fun v H1 H2 e1 e2 h => ?_)
      · cases keys_x hi hx
        obtain ⟨r, hr1, hr2, vr⟩ := R3.get hi
        refine Evl.et_is (Evl.et_test (Evl.ev_op (ev_lenL (K := K) (ev_row (ev_fld (v := .ref d) rfl (e1 _ _ hoA) T.cl_Country T.na_Country_around (by rfl)) (Evl.ev_var rfl) (.inr ⟨od, e1 _ _ upd_same⟩) vr) (Evl.sq_of (e1 _ _ hr2))) Evl.ev_c (Evl.rv_eq rfl))) ?_
        rw [List.length_map]
        by_cases c : (adj L i).length = 1
        · rw [decide_eq_true c, c]
          rfl
        · rw [decide_eq_false c, decide_eq_false (fun z => c (by injection z with z; omega))]
      · cases keys_x hi hx
        exact Evl.ev_var rfl
      · obtain ⟨p, rfl, hp, k⟩ := h
        refine ⟨p, rfl, fun z => ?_, k⟩
        rw [z, e1 _ _ upd_same] at hp
        cases hp
    · obtain ⟨p, rfl, npd, k⟩ := h
      exact ⟨p, rfl, by rw [upd_ne npd]; exact k⟩
    obtain ⟨z, rfl, hz⟩ := h
    have ho10 := e10 _ _ ho9
    rw [pf5]
    have y10 : Ki H10 (upd H10 p (.ins A.Country dx (g5 (.ref l) (.ref d) (.ref e) (.ref y) (.ref z)))) := .put ho10
    refine k _ (fun b o hb nb => ?_) ⟨dx, l, d, e, y, z, rs, qs, upd_same, ?_⟩
    · rw [upd_ne nb]
      exact (x9.trans e10) b o (hx0 b o hb nb)
    · refine ⟨⟨M, (hM9.ex e10).ki y10, pM, sM⟩, y10 _ _ (e10 _ _ hd9) dkOf_ni, (R9.ex e10).ki y10, y10 _ _ (e10 _ _ he9) dkOf_ni, hql, fun i q hq => ?_, y10 _ _ (e10 _ _ hy9) lst_ni, y10 _ _ hz lst_ni⟩
      obtain ⟨kvs, b1, b2⟩ := hq9 i q hq
      exact ⟨kvs, b1, y10 _ _ (e10 _ _ b2) dK_ni⟩
end
end K26

set_option Elab.async false
set_option linter.all false
set_option maxRecDepth 100000
set_option maxHeartbeats 4000000
namespace K26
open PySem PySem.Spec PyProof.Rows L2 TM Pr Ep
open Evl (Ex Ev EvT EvA EvL)
section
variable {P : Program} {w : World} {K : PySem.W.Frag} {mg : Str → Option Value} {base : Heap} {A : Adr}
theorem ok_Country_lanes (T : Txt K mg A) : FnOk P w K mg base CX0 1 A.Country_lanes A.Country_lanes_fd ["self"] (spGet A.Country rLanesG) := by
  refine T.F_Country_lanes.ok sc_Country_lanes (fun vs H Q E h => ?_) (fun cdv A' outer s H vs Q E hr h => ?_)
  · obtain ⟨L, p, rfl, _⟩ := h
    rfl
  · obtain ⟨L, p, rfl, ⟨dx, l, d, e, y, g, rs, qs, ho, C⟩, k⟩ := h
    refine ⟨_, (pss_one (ps_ret (show PE _ _ (tCB (rListOf K) _) from (pe_callTy (T := "list") call_list_of (by rfl) T.n_list (by decide +kernel) (pa_cons (show PE _ _ (tFld K _ _) from pe_fld (pv 0) rfl) pa_nil))))), ?_⟩
    obtain ⟨M, hM, pM, sM⟩ := C.l_
    obtain ⟨ls, hl, hp⟩ := id hM
    refine ⟨_, rfl, p, _, dx, _, _, rfl, ho, T.cl_Country, T.na_Country_lanes, fl_l, l, ls, rfl, .inl (Evl.sq_of hl), fun q hq => ?_⟩
    have e := Ex.new (o := .lst ls) hq
    exact k q _ e hq ⟨M, ⟨ls, upd_same, paired_imp (fun _ _ z => z.ex e) hp⟩, pM, sM⟩
theorem ok_Country_yards (T : Txt K mg A) : FnOk P w K mg base CX0 1 A.Country_yards A.Country_yards_fd ["self"] (spGet A.Country rYardsG) := by
  refine T.F_Country_yards.ok sc_Country_yards (fun vs H Q E h => ?_) (fun cdv A' outer s H vs Q E hr h => ?_)
  · obtain ⟨L, p, rfl, _⟩ := h
    rfl
  · obtain ⟨L, p, rfl, ⟨dx, l, d, e, y, g, rs, qs, ho, C⟩, k⟩ := h
    refine ⟨_, (pss_one (ps_ret (show PE _ _ (tCB (rListOf K) _) from (pe_callTy (T := "list") call_list_of (by rfl) T.n_list (by decide +kernel) (pa_cons (show PE _ _ (tFld K _ _) from pe_fld (pv 0) rfl) pa_nil))))), ?_⟩
    refine ⟨_, rfl, p, _, dx, _, _, rfl, ho, T.cl_Country, T.na_Country_yards, fl_y, y, _, rfl, .inl (Evl.sq_of C.y_), fun q hq => ?_⟩
    exact k q _ (Ex.new hq) hq upd_same
theorem ok_Country_ahead (T : Txt K mg A) : FnOk P w K mg base CX0 1 A.Country_ahead A.Country_ahead_fd ["self", "place", "goal"] (spNext A.Country) := by
  refine T.F_Country_ahead.ok sc_Country_ahead (fun vs H Q E h => ?_) (fun cdv A' outer s H vs Q E hr h => ?_)
  · obtain ⟨L, vt, p, i, goal, rfl, _⟩ := h
    rfl
  · obtain ⟨L, vt, p, i, goal, rfl, ⟨dx, l, d, e, y, g, rs, qs, ho, C⟩, G, ne, hi, hg, k⟩ := h
    have hu := hu_of hr
    refine ⟨_, (pss_one (ps_ret (pe_dget hu (pe_dget hu (show PE _ _ (tFld K _ _) from pe_fld (pv 0) rfl) (pv 2) (fun _ _ => rfl)) (pv 1) (fun _ _ => rfl)))), ?_⟩
    have hl : goal < qs.length := by rw [C.ql]; exact hg
    obtain ⟨kvs, hA, hq⟩ := C.q_ goal qs[goal] (List.getElem?_eq_getElem hl)
    obtain ⟨h, r, e1, P1⟩ := hA.next G.tr ((G.vs_ _).mpr hg) ((G.vs_ _).mpr hi) ne
    have v1 : valV ((keysN (L.length + 1)).zip (qs.map V.ref)) (keyN goal) = some (.ref qs[goal]) := by
      rw [valV_keysN (by rw [List.length_map, C.ql]) hg, List.getElem?_map, List.getElem?_eq_getElem hl]
      rfl
    refine ⟨_, rfl, p, _, dx, _, _, rfl, ho, T.cl_Country, T.na_Country_ahead, fl_e, _, rfl, e, _, rfl, .inl ⟨_, keyN goal, .inl C.e_, rfl, v1.symm⟩, _, rfl, qs[goal], vI h, rfl, .inl ⟨_, keyN i, .inl hq, rfl, ?_⟩, k h r P1⟩
    rw [valV_kv, e1]
    rfl
theorem ok_is_place (T : Txt K mg A) : FnOk P w K mg base CX0 3 A.is_place A.is_place_fd ["country", "value"] (spPlace A.Country) := by
  refine T.F_is_place.ok sc_is_place (fun vs H Q E h => ?_) (fun cdv A' outer s H vs Q E hr h => ?_)
  · obtain ⟨L, p, i, rfl, _⟩ := h
    rfl
  · obtain ⟨L, p, i, rfl, hC, k⟩ := h
    refine ⟨_, (pss_one (ps_ret (pe_and (pe_call (ok_is_count T) (hr.mono (by decide)) (by rfl) T.m_is_count T.F_is_count.kp T.b_is_count .nil pass0 (pa_cons (pv 1) pa_nil)) (pe_one (pe_cmpR op_le (pv 1) (show PE _ _ (tCB (rLenA K) _) from (pe_callB (id := "len") call_len (by rfl) T.n_len (by decide +kernel) (pa_cons (pe_prop (pv 0) T.cl_Country T.pr_Country_lanes (ok_Country_lanes T) (hr.mono (by decide)) T.b_Country_lanes .nil pass0 rfl) pa_nil))) (nomark _)))))), ?_⟩
    obtain ⟨dx, l, d, e, y, g, rs, qs, ho, C⟩ := id hC
    refine ⟨_, rfl, (i : Int), rfl, true, ?_, iteT ?_⟩
    · rw [decide_eq_true (Int.natCast_nonneg _)]
    · refine ⟨_, rfl, _, rfl, p, dx, _, rfl, ho, L, p, rfl, hC, fun q H1 e1 hq ⟨M, ⟨ls, hl, hp⟩, pM, _⟩ => ?_⟩
      have lM : ls.length = L.length := by rw [PySem.Paired.length hp, pM.length_eq]; unfold norm; rw [List.length_map]
      refine ⟨_, _, rfl, .inl ⟨ls, Evl.sq_of hl, rfl⟩, _, _, rfl, rfl, ?_⟩
      have z := k H1 e1
      show Q (V.bl (decide ((i : Int) ≤ (ls.length : Int)))) H1
      rw [lM]
      by_cases c : i < L.length + 1
      · rw [decide_eq_true c] at z
        rw [decide_eq_true (by omega)]
        exact z
      · rw [decide_eq_false c] at z
        rw [decide_eq_false (by omega)]
        exact z
theorem ok_is_yard (T : Txt K mg A) : FnOk P w K mg base CX0 3 A.is_yard A.is_yard_fd ["country", "value"] (spYard A.Country) := by
  refine T.F_is_yard.ok sc_is_yard (fun vs H Q E h => ?_) (fun cdv A' outer s H vs Q E hr h => ?_)
  · obtain ⟨L, p, i, rfl, _⟩ := h
    rfl
  · obtain ⟨L, p, i, rfl, hC, k⟩ := h
    refine ⟨_, (pss_one (ps_ret (pe_and (pe_call (ok_is_count T) (hr.mono (by decide)) (by rfl) T.m_is_count T.F_is_count.kp T.b_is_count .nil pass0 (pa_cons (pv 1) pa_nil)) (pe_one (show PE _ _ (tOp (rIn K false) _ _) from pe_cmpR op_in_seq (pv 1) (pe_prop (pv 0) T.cl_Country T.pr_Country_yards (ok_Country_yards T) (hr.mono (by decide)) T.b_Country_yards .nil pass0 rfl) (by rfl)))))), ?_⟩
    obtain ⟨dx, l, d, e, y, g, rs, qs, ho, C⟩ := id hC
    refine ⟨_, rfl, (i : Int), rfl, true, ?_, iteT ?_⟩
    · rw [decide_eq_true (Int.natCast_nonneg _)]
    · refine ⟨_, rfl, _, rfl, p, dx, _, rfl, ho, L, p, rfl, hC, fun q H1 e1 hq hy => ?_⟩
      refine ⟨q, _, rfl, .inl (Evl.sq_of hy), rfl, flat_vIs _, ?_⟩
      show Q (V.bl (inV (vI i) (vIs (yardsL L)))) H1
      rw [inV_vIs]
      exact k H1 e1
theorem ok_Country_neighbours (T : Txt K mg A) : FnOk P w K mg base CX0 4 A.Country_neighbours A.Country_neighbours_fd ["self", "place"] (spNbs A.Country) := by
  refine T.F_Country_neighbours.ok sc_Country_neighbours (fun vs H Q E h => ?_) (fun cdv A' outer s H vs Q E hr h => ?_)
  · obtain ⟨L, p, i, rfl, _⟩ := h
    rfl
  · obtain ⟨L, p, i, rfl, hC, hi, k⟩ := h
    have hu := hu_of hr
    refine ⟨_, (pss_cons (ps_if (pt_not (pt_val (pe_call (ok_is_place T) (hr.mono (by decide)) (by rfl) T.m_is_place T.F_is_place.kp T.b_is_place .nil pass0 (pa_cons (pv 0) (pa_cons (pv 1) pa_nil))))) (pss_one ps_never) pss_nil) (pss_one (ps_ret (show PE _ _ (tCB (rListOf K) _) from (pe_callTy (T := "list") call_list_of (by rfl) T.n_list (by decide +kernel) (pa_cons (pe_dget hu (show PE _ _ (tFld K _ _) from pe_fld (pv 0) rfl) (pv 1) (fun _ _ => rfl)) pa_nil)))))), ?_⟩
    refine p_skip (Evl.et_is (Evl.et_not (a := true) (evt_P (evp_callA (vs := [.ref p, vI i]) (Evl.ea_cons (Evl.ev_var rfl) (Evl.ea_cons (Evl.ev_var rfl) Evl.ea_nil)) (fun H2 e2 Q q => ⟨L, p, i, rfl, hC.ex e2, fun H3 e3 => q _ H3 e3 (by rw [decide_eq_true hi]; rfl)⟩) (fun _ _ _ _ _ _ _ h => h)))) rfl) fun H1 e1 => ?_
    obtain ⟨dx, l, d, e, y, g, rs, qs, ho, C⟩ := hC.ex e1
    obtain ⟨r, hr1, hr2, vr⟩ := C.r_.get hi
    refine ⟨_, rfl, p, _, dx, _, _, rfl, ho, T.cl_Country, T.na_Country_around, fl_d, _, rfl, d, _, rfl, .inl ⟨_, keyN i, .inl C.d_, rfl, vr.symm⟩, r, _, rfl, .inl (Evl.sq_of hr2), fun q hq => ?_⟩
    exact k q _ (e1.trans (Ex.new hq)) (Evl.fresh_back e1 hq) upd_same
theorem ok_is_neighbour (T : Txt K mg A) : FnOk P w K mg base CX0 5 A.is_neighbour A.is_neighbour_fd ["country", "place", "value"] (spIsNb A.Country) := by
  refine T.F_is_neighbour.ok sc_is_neighbour (fun vs H Q E h => ?_) (fun cdv A' outer s H vs Q E hr h => ?_)
  · obtain ⟨L, p, i, j, rfl, _⟩ := h
    rfl
  · obtain ⟨L, p, i, j, rfl, hC, hi, k⟩ := h
    refine ⟨_, (pss_one (ps_ret (pe_and (pe_call (ok_is_count T) (hr.mono (by decide)) (by rfl) T.m_is_count T.F_is_count.kp T.b_is_count .nil pass0 (pa_cons (pv 2) pa_nil)) (pe_one (show PE _ _ (tOp (rIn K false) _ _) from pe_cmpR op_in_seq (pv 2) (pe_meth (pv 0) T.cl_Country T.me_Country_neighbours (ok_Country_neighbours T) (hr.mono (by decide)) T.b_Country_neighbours .nil pass0 (pa_cons (pv 1) pa_nil)) (by rfl)))))), ?_⟩
    obtain ⟨dx, l, d, e, y, g, rs, qs, ho, C⟩ := id hC
    refine ⟨_, rfl, (j : Int), rfl, true, ?_, iteT ?_⟩
    · rw [decide_eq_true (Int.natCast_nonneg _)]
    · refine ⟨_, rfl, _, rfl, p, dx, _, rfl, ho, fl_no (by rfl), _, rfl, L, p, i, rfl, hC, hi, fun q H1 e1 hq hy => ?_⟩
      refine ⟨q, _, rfl, .inl (Evl.sq_of hy), rfl, flat_vIs _, ?_⟩
      show Q (V.bl (inV (vI j) (vIs (adj L i)))) H1
      rw [inV_vIs]
      exact k H1 e1
theorem ok_check_country (T : Txt K mg A) : FnOk P w K mg base CX0 1 A.check_country A.check_country_fd ["country"] (spCheckC A.Country) := by
  refine T.F_check_country.ok sc_check_country (fun vs H Q E h => ?_) (fun cdv A' outer s H vs Q E hr h => ?_)
  · obtain ⟨L, p, rfl, _⟩ := h
    rfl
  · obtain ⟨L, p, rfl, hC, k⟩ := h
    refine ⟨_, (pss_one (ps_if (pt_not (pt_val (show PE _ _ (tCB (rIsi K) _) from (pe_callB (id := "isinstance") call_isi (by rfl) T.n_isinstance (by decide +kernel) (pa_cons (pv 0) (pa_cons (pe_glob (v := .ref A.Country) rfl T.m_Country rfl) pa_nil)))))) (pss_one ps_never) pss_nil)), ?_⟩
    obtain ⟨dx, l, d, e, y, g, rs, qs, ho, C⟩ := id hC
    have I := T.ic_Country
    refine p_skip1 (Evl.et_is (Evl.et_not (a := true) (evt_P (evp_ev (ev_cb2 (z := .bl true) (Evl.ev_var rfl) Evl.ev_c fun H1 e1 Q q => ⟨_, _, _, _, true, rfl, .own _, .base (.ins (e1 _ _ ho) I.cl I.ha I.hn I.htk I.hm), I.me, q⟩)))) rfl) fun H1 e1 => k H1 e1
theorem ok_check_yard (T : Txt K mg A) : FnOk P w K mg base CX0 4 A.check_yard A.check_yard_fd ["country", "yard"] (spCheckY A.Country) := by
  refine T.F_check_yard.ok sc_check_yard (fun vs H Q E h => ?_) (fun cdv A' outer s H vs Q E hr h => ?_)
  · obtain ⟨L, p, i, rfl, _⟩ := h
    rfl
  · obtain ⟨L, p, i, rfl, hC, hi, k⟩ := h
    refine ⟨_, (pss_one (ps_if (pt_not (pt_val (pe_call (ok_is_yard T) (hr.mono (by decide)) (by rfl) T.m_is_yard T.F_is_yard.kp T.b_is_yard .nil pass0 (pa_cons (pv 0) (pa_cons (pv 1) pa_nil))))) (pss_one ps_never) pss_nil)), ?_⟩
    refine p_skip1 (Evl.et_is (Evl.et_not (a := true) (evt_P (evp_callA (vs := [.ref p, vI i]) (Evl.ea_cons (Evl.ev_var rfl) (Evl.ea_cons (Evl.ev_var rfl) Evl.ea_nil)) (fun H2 e2 Q q => ⟨L, p, i, rfl, hC.ex e2, fun H3 e3 => q _ H3 e3 (by rw [decide_eq_true hi]; rfl)⟩) (fun _ _ _ _ _ _ _ h => h)))) rfl) fun H1 e1 => k H1 e1
theorem ok_check_country_and_yard (T : Txt K mg A) : FnOk P w K mg base CX0 5 A.check_country_and_yard A.check_country_and_yard_fd ["country", "yard"] (spCheckY A.Country) := by
  refine T.F_check_country_and_yard.ok sc_check_country_and_yard (fun vs H Q E h => ?_) (fun cdv A' outer s H vs Q E hr h => ?_)
  · obtain ⟨L, p, i, rfl, _⟩ := h
    rfl
  · obtain ⟨L, p, i, rfl, hC, hi, k⟩ := h
    refine ⟨_, (pss_cons (ps_expr (pe_call (ok_check_country T) (hr.mono (by decide)) (by rfl) T.m_check_country T.F_check_country.kp T.b_check_country .nil pass0 (pa_cons (pv 0) pa_nil))) (pss_one (ps_expr (pe_call (ok_check_yard T) (hr.mono (by decide)) (by rfl) T.m_check_yard T.F_check_yard.kp T.b_check_yard .nil pass0 (pa_cons (pv 0) (pa_cons (pv 1) pa_nil)))))), ?_⟩
    refine ⟨_, rfl, L, p, rfl, hC, fun H1 e1 => ⟨_, rfl, _, rfl, L, p, i, rfl, hC.ex e1, hi, fun H2 e2 => k H2 (e1.trans e2)⟩⟩
end
end K26
set_option linter.all false
/-! a country with other numbers. Plain Lean. -/
namespace TM
section
variable {vs : List Nat} {L : Lanes} {f : Nat → Nat}
theorem adj_ren {a b : Nat} : Adj (ren f L) a b ↔ ∃ x y, Adj L x y ∧ f x = a ∧ f y = b := by
  have one : ∀ {a b : Nat}, (a, b) ∈ ren f L ↔ ∃ x y, (x, y) ∈ L ∧ f x = a ∧ f y = b := by
    intro a b
    unfold ren
    rw [List.mem_map]
    constructor
    · rintro ⟨⟨x, y⟩, h, e⟩
      injection e with e1 e2
      exact ⟨x, y, h, e1, e2⟩
    · rintro ⟨x, y, h, e1, e2⟩
      exact ⟨(x, y), h, by rw [e1, e2]⟩
  unfold Adj
  rw [one, one]
  constructor
  · rintro (⟨x, y, h, e1, e2⟩ | ⟨x, y, h, e1, e2⟩)
    · exact ⟨x, y, .inl h, e1, e2⟩
    · exact ⟨y, x, .inr h, e2, e1⟩
  · rintro ⟨x, y, h | h, e1, e2⟩
    · exact .inl ⟨x, y, h, e1, e2⟩
    · exact .inr ⟨y, x, h, e2, e1⟩
theorem Chain.ren : ∀ {W : List Nat}, Chain L W → Chain (TM.ren f L) (W.map f)
  | [], _ => trivial
  | [_], _ => trivial
  | x :: y :: r, h => ⟨adj_ren.mpr ⟨x, y, h.1, rfl, rfl⟩, Chain.ren (W := y :: r) h.2⟩
theorem Path.ren (inj : ∀ a ∈ vs, ∀ b ∈ vs, f a = f b → a = b) {s t : Nat} {W : List Nat} (P : Path L s t W) (h : ∀ x ∈ W, x ∈ vs) : Path (TM.ren f L) (f s) (f t) (W.map f) where
  ch := P.ch.ren
  nd := List.pairwise_map.mpr (List.Pairwise.imp_of_mem (fun {a b} ha hb n e => n (inj a (h a ha) b (h b hb) e)) P.nd)
  hd := by rw [List.head?_map, P.hd]; rfl
  lt := by rw [List.getLast?_map, P.lt]; rfl
theorem unren (ends : ∀ {a b : Nat}, Adj L a b → a ∈ vs ∧ b ∈ vs) (inj : ∀ a ∈ vs, ∀ b ∈ vs, f a = f b → a = b) : ∀ {V : List Nat} {s : Nat}, s ∈ vs → Chain (TM.ren f L) (f s :: V) → ∃ W, V = W.map f ∧ Chain L (s :: W) ∧ ∀ x ∈ W, x ∈ vs
  | [], s, _, _ => ⟨[], rfl, trivial, fun _ h => nomatch h⟩
  | b :: V, s, hs, h => by
    obtain ⟨x, y, a, e1, e2⟩ := adj_ren.mp h.1
    have := inj x (ends a).1 s hs e1
    subst this
    obtain ⟨W, e, c, k⟩ := unren ends inj (V := V) (s := y) (ends a).2 (by rw [e2]; exact h.2)
    refine ⟨y :: W, by rw [List.map_cons, ← e, e2], ⟨a, c⟩, fun z hz => ?_⟩
    rcases List.mem_cons.mp hz with e | hz
    · exact e ▸ (ends a).2
    · exact k z hz
theorem inj_list (inj : ∀ a ∈ vs, ∀ b ∈ vs, f a = f b → a = b) {W : List Nat} (h : ∀ x ∈ W, x ∈ vs) (nd : (W.map f).Nodup) : W.Nodup := by
  have := List.pairwise_map.mp nd
  exact this.imp fun n e => n (congrArg f e)
theorem Path.unren (ends : ∀ {a b : Nat}, Adj L a b → a ∈ vs ∧ b ∈ vs) (inj : ∀ a ∈ vs, ∀ b ∈ vs, f a = f b → a = b) {s b : Nat} {V : List Nat} (hs : s ∈ vs) (P : Path (TM.ren f L) (f s) b V) : ∃ W t, V = W.map f ∧ b = f t ∧ t ∈ vs ∧ Path L s t W ∧ ∀ x ∈ W, x ∈ vs := by
  cases V with
  | nil => have := P.hd; cases this
  | cons a V =>
    have e : a = f s := Option.some.inj P.hd
    subst e
    obtain ⟨W, e, c, k⟩ := TM.unren ends inj hs P.ch
    have ks : ∀ x ∈ s :: W, x ∈ vs := fun x hx => by
      rcases List.mem_cons.mp hx with e | hx
      · exact e ▸ hs
      · exact k x hx
    have eV : f s :: V = (s :: W).map f := by rw [List.map_cons, ← e]
    obtain ⟨t, ht⟩ : ∃ t, (s :: W).getLast? = some t := by
      cases h : (s :: W).getLast? with
      | none => simp at h
      | some t => exact ⟨t, rfl⟩
    have lt := P.lt
    rw [eV, List.getLast?_map, ht] at lt
    refine ⟨s :: W, t, eV, (Option.some.inj lt).symm, ks t (List.mem_of_getLast? ht), ⟨c, inj_list inj ks (eV ▸ P.nd), rfl, ht⟩, ks⟩
theorem Tr.ren (G : Tr vs L) (inj : ∀ a ∈ vs, ∀ b ∈ vs, f a = f b → a = b) (off : ∀ i, i ∉ vs.map f → nb (TM.ren f L) i = []) : Tr (vs.map f) (TM.ren f L) where
  ends := fun {a b} h => by
    obtain ⟨x, y, k, e1, e2⟩ := adj_ren.mp h
    exact ⟨List.mem_map.mpr ⟨x, (G.ends k).1, e1⟩, List.mem_map.mpr ⟨y, (G.ends k).2, e2⟩⟩
  irrefl := fun {a} h => by
    obtain ⟨x, y, k, e1, e2⟩ := adj_ren.mp h
    have := inj x (G.ends k).1 y (G.ends k).2 (e1.trans e2.symm)
    exact G.irrefl (this ▸ k)
  unique := fun {s t p q} P Q => by
    by_cases h : s ∈ vs.map f
    · obtain ⟨x, hx, e⟩ := List.mem_map.mp h
      subst e
      obtain ⟨W, u, e1, e2, hu, PW, _⟩ := P.unren G.ends inj hx
      obtain ⟨W', u', e1', e2', hu', PW', _⟩ := Q.unren G.ends inj hx
      have := inj u hu u' hu' (e2.symm.trans e2')
      subst this
      rw [e1, e1', G.unique PW PW']
    · have alone : ∀ {p : List Nat}, Path (TM.ren f L) s t p → p = [s] := fun {p} P => by
        cases p with
        | nil => have := P.hd; cases this
        | cons a p =>
          have e : a = s := Option.some.inj P.hd
          subst e
          cases p with
          | nil => rfl
          | cons b p =>
            obtain ⟨x, y, k, e1, _⟩ := adj_ren.mp P.ch.1
            exact absurd (List.mem_map.mpr ⟨x, (G.ends k).1, e1⟩) h
      rw [alone P, alone Q]
  conn := fun {s t} hs ht => by
    obtain ⟨x, hx, e1⟩ := List.mem_map.mp hs
    obtain ⟨y, hy, e2⟩ := List.mem_map.mp ht
    obtain ⟨p, P, k⟩ := G.conn hx hy
    subst e1; subst e2
    exact ⟨p.map f, P.ren inj k, fun z hz => by
      obtain ⟨u, hu, e⟩ := List.mem_map.mp hz
      exact List.mem_map.mpr ⟨u, k u hu, e⟩⟩
  nbnd := fun i => by
    by_cases h : i ∈ vs.map f
    · obtain ⟨x, hx, e⟩ := List.mem_map.mp h
      subst e
      rw [nb_ren (vs := vs) (fun p hp => G.ends (.inl hp)) inj hx]
      exact List.pairwise_map.mpr (List.Pairwise.imp_of_mem (fun {a b} ha hb n e => n (inj a (G.ends (mem_nb.mp ha)).2 b (G.ends (mem_nb.mp hb)).2 e)) (G.nbnd x))
    · rw [off i h]
      exact List.nodup_nil
  length := by rw [List.length_map, G.length]; unfold TM.ren; rw [List.length_map]
  nodup := List.pairwise_map.mpr (List.Pairwise.imp_of_mem (fun {a b} ha hb n e => n (inj a ha b hb e)) G.nodup)
theorem nb_off (ends : ∀ {a b : Nat}, Adj L a b → a ∈ vs ∧ b ∈ vs) {i : Nat} (h : i ∉ vs.map f) : nb (ren f L) i = [] := by
  cases e : nb (ren f L) i with
  | nil => rfl
  | cons y r =>
    have m : y ∈ nb (ren f L) i := by rw [e]; exact List.mem_cons_self
    obtain ⟨x, z, k, e1, _⟩ := adj_ren.mp (mem_nb.mp m)
    exact absurd (List.mem_map.mpr ⟨x, (ends k).1, e1⟩) h
theorem ren_len : (ren f L).length = L.length := by unfold ren; rw [List.length_map]
theorem ren_adj (G : Tr vs L) (inj : ∀ a ∈ vs, ∀ b ∈ vs, f a = f b → a = b) {i : Nat} (hi : i ∈ vs) : adj (ren f L) (f i) = isort ((adj L i).map f) := by
  unfold adj
  rw [nb_ren (vs := vs) (fun p hp => G.ends (.inl hp)) inj hi]
  exact isort_congr ((isort_perm (nb L i)).map f).symm
/-- numbers for all places, each once -/
structure Num (L : Lanes) (f : Nat → Nat) : Prop where
  lt : ∀ i, i < L.length + 1 → f i < L.length + 1
  inj : ∀ i j, i < L.length + 1 → j < L.length + 1 → f i = f j → i = j
theorem Num.on (m : Num L f) (G : Good vs L) : ∀ a ∈ vs, ∀ b ∈ vs, f a = f b → a = b := fun a ha b hb => m.inj a b ((G.vs_ a).mp ha) ((G.vs_ b).mp hb)
theorem yards_ren (m : Num L f) (G : Good vs L) (on : ∀ v, v ∈ vs.map f ↔ v < L.length + 1) : (yardsL (ren f L)).Perm ((yardsL L).map f) := by
  have inj := m.on G
  have nd : ((yardsL L).map f).Nodup := List.pairwise_map.mpr (List.Pairwise.imp_of_mem (fun {a b} ha hb n e => n (inj a (yard_vs G ha) b (yard_vs G hb) e)) (yards_nodup L))
  refine (List.perm_ext_iff_of_nodup (yards_nodup _) nd).mpr fun u => ?_
  rw [mem_yards, ren_len]
  have ends : ∀ p ∈ L, p.1 ∈ vs ∧ p.2 ∈ vs := fun p hp => G.tr.ends (.inl hp)
  constructor
  · rintro ⟨h1, h2⟩
    obtain ⟨x, hx, e⟩ := List.mem_map.mp ((on u).mpr h1)
    subst e
    rw [nb_ren (vs := vs) ends inj hx, List.length_map] at h2
    exact List.mem_map.mpr ⟨x, mem_yards.mpr ⟨(G.vs_ x).mp hx, h2⟩, rfl⟩
  · intro h
    obtain ⟨x, hx, e⟩ := List.mem_map.mp h
    subst e
    obtain ⟨h1, h2⟩ := mem_yards.mp hx
    have hv := (G.vs_ x).mpr h1
    refine ⟨(on _).mp (List.mem_map.mpr ⟨x, hv, rfl⟩), ?_⟩
    rw [nb_ren (vs := vs) ends inj hv, List.length_map]
    exact h2
theorem Num.all (m : Num L f) (G : Good vs L) : ∀ v, v ∈ vs.map f ↔ v < L.length + 1 := by
  have sub : ∀ v ∈ vs.map f, v ∈ List.range (L.length + 1) := fun v hv => by
    obtain ⟨x, hx, e⟩ := List.mem_map.mp hv
    exact List.mem_range.mpr (e ▸ m.lt x ((G.vs_ x).mp hx))
  have nd : (vs.map f).Nodup := List.pairwise_map.mpr (List.Pairwise.imp_of_mem (fun {a b} ha hb n e => n (m.on G a ha b hb e)) G.tr.nodup)
  refine fun v => ⟨fun h => List.mem_range.mp (sub v h), fun h => ?_⟩
  by_cases c : v ∈ vs.map f
  · exact c
  · have := nodup_len (List.nodup_cons.mpr ⟨c, nd⟩) (m := List.range (L.length + 1)) fun x hx => by
      rcases List.mem_cons.mp hx with e | hx
      · rw [e]
        exact List.mem_range.mpr h
      · exact sub x hx
    rw [List.length_cons, List.length_map, G.tr.length, List.length_range] at this
    omega
/-- THE COUNTRY WITH OTHER NUMBERS IS ONE -/
theorem Good.ren (G : Good vs L) (m : Num L f) : Good (vs.map f) (TM.ren f L) where
  tr := G.tr.ren (m.on G) fun i h => nb_off G.tr.ends h
  vs_ := fun v => by rw [ren_len]; exact m.all G v
  deg := fun i => by
    by_cases h : i ∈ vs.map f
    · obtain ⟨x, hx, e⟩ := List.mem_map.mp h
      subst e
      rw [ren_adj G.tr (m.on G) hx, isort_length, List.length_map]
      exact G.deg x
    · unfold adj
      rw [nb_off G.tr.ends h]
      exact Nat.zero_le _
  least := by rw [(yards_ren m G (m.all G)).length_eq, List.length_map]; exact G.least
  most := by rw [(yards_ren m G (m.all G)).length_eq, List.length_map]; exact G.most
  small := by rw [ren_len]; exact G.small
end
end TM
set_option linter.all false
/-! other numbers, once more: what is led. Plain Lean. -/
namespace TM
section
variable {vs : List Nat} {L M : Lanes} {f g : Nat → Nat}
theorem norm_ren_norm (f : Nat → Nat) (L : Lanes) : norm (ren f (norm L)) = norm (ren f L) := by
  unfold norm ren
  rw [List.map_map, List.map_map, List.map_map]
  refine List.map_congr_left fun p _ => ?_
  show norm1 (f (min p.1 p.2), f (max p.1 p.2)) = norm1 (f p.1, f p.2)
  unfold norm1
  by_cases h : p.1 ≤ p.2
  · rw [Nat.min_eq_left h, Nat.max_eq_right h]
  · have h2 : p.2 ≤ p.1 := by omega
    rw [Nat.min_eq_right h2, Nat.max_eq_left h2]
    simp only [Nat.min_comm, Nat.max_comm]
theorem ren_perm (h : L.Perm M) : (ren f L).Perm (ren f M) := h.map _
theorem norm_perm (h : L.Perm M) : (norm L).Perm (norm M) := h.map _
/-- the same lanes, otherwise told -/
def Same (L M : Lanes) : Prop := (norm L).Perm (norm M)
instance : Decidable (Same L M) := inferInstanceAs (Decidable ((norm L).Perm (norm M)))
theorem Same.refl (L : Lanes) : Same L L := List.Perm.refl _
theorem Same.symm (h : Same L M) : Same M L := List.Perm.symm h
theorem Same.nb (h : Same L M) (i : Nat) : (nb L i).Perm (nb M i) := (nb_norm L i).symm.trans ((nb_perm h i).trans (nb_norm M i))
theorem Same.len (h : Same L M) : L.length = M.length := by
  have := List.Perm.length_eq h
  unfold norm at this
  rw [List.length_map, List.length_map] at this
  exact this
theorem norm_norm (L : Lanes) : norm (norm L) = norm L := by
  unfold norm
  rw [List.map_map]
  refine List.map_congr_left fun p _ => ?_
  show norm1 (norm1 p) = norm1 p
  unfold norm1
  simp only
  rw [Nat.min_eq_left (by omega), Nat.max_eq_right (by omega)]
theorem same_of (h : M.Perm (norm L)) : Same M L := by
  have := norm_perm h
  rw [norm_norm] at this
  exact this
theorem same_ren (h : M.Perm (norm L)) : Same (ren f M) (ren f L) := by
  have := norm_perm (ren_perm (f := f) h)
  rw [norm_ren_norm] at this
  exact this
theorem lex_eq {M1 M2 N1 N2 : Lanes} (p1 : M1.Perm N1) (s1 : LexS M1) (p2 : M2.Perm N2) (s2 : LexS M2) : M1 = M2 ↔ N1.Perm N2 :=
  ⟨fun e => p1.symm.trans (e ▸ p2), fun h => lex_unique (p1.trans (h.trans p2.symm)) s1 s2⟩
theorem gates_nodup (L : Lanes) : (gatesL L).Nodup := List.nodup_range.filter _
theorem gates_sorted (L : Lanes) : (gatesL L).Pairwise (· ≤ ·) := by
  unfold gatesL
  refine List.Pairwise.filter _ ?_
  exact List.pairwise_lt_range.imp fun h => Nat.le_of_lt h
theorem mem_gates {u : Nat} : u ∈ gatesL L ↔ u < L.length + 1 ∧ (nb L u).length = 1 := by
  unfold gatesL
  rw [List.mem_filter, List.mem_range, decide_eq_true_iff, adj_length]
theorem gates_ren (m : Num L f) (G : Good vs L) (on : ∀ v, v ∈ vs.map f ↔ v < L.length + 1) : (gatesL (ren f L)).Perm ((gatesL L).map f) := by
  have inj := m.on G
  have gv : ∀ {u : Nat}, u ∈ gatesL L → u ∈ vs := fun h => (G.vs_ _).mpr (mem_gates.mp h).1
  have nd : ((gatesL L).map f).Nodup := List.pairwise_map.mpr (List.Pairwise.imp_of_mem (fun {a b} ha hb n e => n (inj a (gv ha) b (gv hb) e)) (gates_nodup L))
  refine (List.perm_ext_iff_of_nodup (gates_nodup _) nd).mpr fun u => ?_
  rw [mem_gates, ren_len]
  have ends : ∀ p ∈ L, p.1 ∈ vs ∧ p.2 ∈ vs := fun p hp => G.tr.ends (.inl hp)
  constructor
  · rintro ⟨h1, h2⟩
    obtain ⟨x, hx, e⟩ := List.mem_map.mp ((on u).mpr h1)
    subst e
    rw [nb_ren (vs := vs) ends inj hx, List.length_map] at h2
    exact List.mem_map.mpr ⟨x, mem_gates.mpr ⟨(G.vs_ x).mp hx, h2⟩, rfl⟩
  · intro h
    obtain ⟨x, hx, e⟩ := List.mem_map.mp h
    subst e
    obtain ⟨h1, h2⟩ := mem_gates.mp hx
    have hv := (G.vs_ x).mpr h1
    refine ⟨(on _).mp (List.mem_map.mpr ⟨x, hv, rfl⟩), ?_⟩
    rw [nb_ren (vs := vs) ends inj hv, List.length_map]
    exact h2
theorem yards_led (m : Num L f) (G : Good vs L) : isort ((yardsL L).map f) = yardsL (ren f L) :=
  (isort_eq (yards_ren m G (m.all G)) (yards_sorted _)).symm
theorem gates_led (m : Num L f) (G : Good vs L) : isort ((gatesL L).map f) = gatesL (ren f L) :=
  (isort_eq (gates_ren m G (m.all G)) (gates_sorted _)).symm
theorem ren_in {x : Nat} (m : Num L f) (G : Good vs L) (hx : x ∈ vs) : f x ∈ vs.map f := List.mem_map.mpr ⟨x, hx, rfl⟩
theorem path_led (m : Num L f) (G : Good vs L) {s t : Nat} {W : List Nat} (hs : s ∈ vs) (ht : t ∈ vs) (P : Path L s t W) : Path (ren f L) (f s) (f t) (W.map f) := by
  obtain ⟨q, Q, k⟩ := G.tr.conn hs ht
  have := G.tr.unique P Q
  subst this
  exact P.ren (m.on G) k
theorem yard_led (m : Num L f) (G : Good vs L) {y : Nat} (h : y ∈ yardsL L) : f y ∈ yardsL (ren f L) :=
  (yards_ren m G (m.all G)).mem_iff.mpr (List.mem_map.mpr ⟨y, h, rfl⟩)
theorem adj_led (m : Num L f) (G : Good vs L) {y t : Nat} (h : t ∈ adj L y) : f t ∈ adj (ren f L) (f y) := mem_adj.mpr (adj_ren.mpr ⟨y, t, mem_adj.mp h, rfl, rfl⟩)
theorem bh_led (m : Num L f) (G : Good vs L) {N N' : Nat → Nat → Nat} (I : IsNext vs L N) (I' : IsNext (vs.map f) (ren f L) N') {y t : Nat} (hy : y ∈ yardsL L) (ht : t ∈ adj L y) :
    isort ((bh L N y t).map f) = bh (ren f L) N' (f y) (f t) := by
  have inj := m.on G
  have G' := G.ren m
  have be : ∀ {u : Nat}, u ∈ yardsL L → beh N' (f y) (f t) (f u) = beh N y t u := fun {u} hu => by
    unfold beh
    by_cases c : u = y
    · subst c
      simp
    · have hyv := yard_vs G hy
      have huv := yard_vs G hu
      obtain ⟨r, P⟩ := I u y huv hyv (fun e => c e.symm)
      have P' := path_led m G hyv huv P
      have e := next_of G'.tr I' (h := f (N u y)) (r := r.map f) P'
      rw [e]
      have c' : ¬ f u = f y := fun z => c (inj u huv y hyv z)
      rw [decide_eq_false c, decide_eq_false c']
      have hn : N u y ∈ vs := (G.tr.ends P.ch.1).2
      have htv := adj_vs G ht
      congr 2
      exact decide_eq_decide.mpr ⟨fun z => inj _ hn _ htv z, fun z => congrArg f z⟩
  refine ((isort_eq ?_ ?_)).symm
  · have nd : ((bh L N y t).map f).Nodup := List.pairwise_map.mpr (List.Pairwise.imp_of_mem (fun {a b} ha hb n e => n (inj a (yard_vs G (mem_bh.mp ha).1) b (yard_vs G (mem_bh.mp hb).1) e)) (bh_nodup y t))
    refine (List.perm_ext_iff_of_nodup (bh_nodup _ _) nd).mpr fun u => ?_
    rw [mem_bh]
    constructor
    · rintro ⟨h1, h2⟩
      obtain ⟨x, hx, e⟩ := List.mem_map.mp ((yards_ren m G (m.all G)).mem_iff.mp h1)
      subst e
      rw [be hx] at h2
      exact List.mem_map.mpr ⟨x, mem_bh.mpr ⟨hx, h2⟩, rfl⟩
    · intro h
      obtain ⟨x, hx, e⟩ := List.mem_map.mp h
      subst e
      obtain ⟨h1, h2⟩ := mem_bh.mp hx
      exact ⟨yard_led m G h1, by rw [be h1]; exact h2⟩
  · exact (yards_sorted _).filter _
theorem Mixed.num {ps : List Nat} (m : Mixed (L.length + 1) ps) : Num L (fun i => ps.getD i 0) where
  lt := fun i hi => m.lt (List.mem_of_getElem? (getD_at (by rw [m.len]; exact hi)))
  inj := fun i j hi hj e => m.inj hi hj e
theorem ren_congr {f g : Nat → Nat} (h : ∀ p ∈ L, f p.1 = g p.1 ∧ f p.2 = g p.2) : ren f L = ren g L := by
  unfold ren
  exact List.map_congr_left fun p hp => by rw [(h p hp).1, (h p hp).2]
theorem ren_ren (f g : Nat → Nat) (L : Lanes) : ren g (ren f L) = ren (fun i => g (f i)) L := by
  unfold ren
  rw [List.map_map]
  rfl
theorem ren_id (h : ∀ p ∈ L, f p.1 = p.1 ∧ f p.2 = p.2) : ren f L = L := by
  have := ren_congr (L := L) (f := f) (g := fun i => i) h
  rw [this]
  unfold ren
  exact List.map_id' L
theorem Good.lt (G : Good vs L) {p : Nat × Nat} (hp : p ∈ L) : p.1 < L.length + 1 ∧ p.2 < L.length + 1 :=
  ⟨(G.vs_ _).mp (G.tr.ends (.inl hp)).1, (G.vs_ _).mp (G.tr.ends (.inl hp)).2⟩
theorem getD_map {l : List Nat} {g : Nat → Nat} {i : Nat} (h : i < l.length) : (l.map g).getD i 0 = g (l.getD i 0) := by
  rw [List.getD_eq_getElem?_getD, List.getElem?_map, List.getElem?_eq_getElem h, List.getD_eq_getElem?_getD, List.getElem?_eq_getElem h]
  rfl
theorem getD_range {n i : Nat} (h : i < n) : (List.range n).getD i 0 = i := by
  rw [List.getD_eq_getElem?_getD, List.getElem?_range h]
  rfl
theorem Mixed.range (n : Nat) : Mixed n (List.range n) := ⟨by simp, List.Perm.refl _⟩
theorem mixed_of {n : Nat} {ps : List Nat} (hl : ps.length = n) (nd : ps.Nodup) (hs : ∀ x ∈ ps, x < n) : Mixed n ps := by
  refine ⟨hl, ?_⟩
  refine (List.perm_ext_iff_of_nodup nd List.nodup_range).mpr fun x => ⟨fun h => List.mem_range.mpr (hs x h), fun h => ?_⟩
  by_cases c : x ∈ ps
  · exact c
  · have := nodup_len (List.nodup_cons.mpr ⟨c, nd⟩) (m := List.range n) fun y hy => by
      rcases List.mem_cons.mp hy with e | hy
      · rw [e]
        exact h
      · exact List.mem_range.mpr (hs y hy)
    rw [List.length_cons, hl, List.length_range] at this
    omega
/-- one renaming behind another one -/
theorem Mixed.comp {n : Nat} {ps ms : List Nat} (m : Mixed n ps) (k : Mixed n ms) : Mixed n (ps.map fun x => ms.getD x 0) := by
  refine mixed_of (by rw [List.length_map, m.len]) ?_ fun x hx => ?_
  · exact List.pairwise_map.mpr (List.Pairwise.imp_of_mem (fun {a b} ha hb ne e => ne (k.inj (m.lt ha) (m.lt hb) e)) m.nd)
  · obtain ⟨y, hy, e⟩ := List.mem_map.mp hx
    subst e
    exact k.lt (List.mem_of_getElem? (getD_at (by rw [k.len]; exact m.lt hy)))
theorem ren_comp (G : Good vs L) {ps ms : List Nat} (m : Mixed (L.length + 1) ps) : ren (fun i => ms.getD i 0) (ren (fun i => ps.getD i 0) L) = ren (fun i => (ps.map fun x => ms.getD x 0).getD i 0) L := by
  rw [ren_ren]
  refine ren_congr fun p hp => ?_
  have := G.lt hp
  exact ⟨(getD_map (g := fun x => ms.getD x 0) (by rw [m.len]; exact this.1)).symm, (getD_map (g := fun x => ms.getD x 0) (by rw [m.len]; exact this.2)).symm⟩
/-- two exchanged -/
theorem swapped {n i j : Nat} (hi : i < n) (hj : j < n) : Mixed n (((List.range n).set i j).set j i) := by
  have at_ : ∀ k, k < n → (((List.range n).set i j).set j i)[k]? = some (if j = k then i else if i = k then j else k) := fun k hk => by
    rw [List.getElem?_set, List.getElem?_set, List.length_set, List.length_range, List.getElem?_range hk]
    by_cases a : j = k
    · rw [if_pos a, if_pos a, if_pos hj]
    · rw [if_neg a, if_neg a]
      by_cases b : i = k
      · rw [if_pos b, if_pos b, if_pos hi]
      · rw [if_neg b, if_neg b]
  have hl : (((List.range n).set i j).set j i).length = n := by rw [List.length_set, List.length_set, List.length_range]
  refine mixed_of hl ?_ fun x hx => ?_
  · refine List.pairwise_iff_getElem.mpr fun a b ha hb hab e => ?_
    have h1 := at_ a (by omega)
    have h2 := at_ b (by omega)
    rw [List.getElem?_eq_getElem ha] at h1
    rw [List.getElem?_eq_getElem hb, ← e] at h2
    have h := (Option.some.inj h1).symm.trans (Option.some.inj h2)
    split at h <;> split at h <;> (try split at h) <;> (try split at h) <;> omega
  · obtain ⟨k, hk, e⟩ := List.mem_iff_getElem.mp hx
    have h1 := at_ k (by omega)
    rw [List.getElem?_eq_getElem hk, e] at h1
    have := Option.some.inj h1
    split at this <;> (try split at this) <;> omega
/-- the numbers turned about -/
theorem Mixed.back {n : Nat} {ps : List Nat} (m : Mixed n ps) : Mixed n ((List.range n).map fun k => ps.idxOf k) ∧ ∀ i, i < n → ((List.range n).map fun k => ps.idxOf k).getD (ps.getD i 0) 0 = i := by
  have mem : ∀ k, k < n → k ∈ ps := fun k hk => m.perm.mem_iff.mpr (List.mem_range.mpr hk)
  have il : ∀ k, k < n → ps.idxOf k < n := fun k hk => by rw [← m.len]; exact List.idxOf_lt_length_of_mem (mem k hk)
  have ia : ∀ k, k < n → ps.getD (ps.idxOf k) 0 = k := fun k hk => by
    rw [List.getD_eq_getElem?_getD, List.getElem?_eq_getElem (by rw [m.len]; exact il k hk), List.getElem_idxOf]
    rfl
  refine ⟨mixed_of (by simp) ?_ fun x hx => ?_, fun i hi => ?_⟩
  · refine List.pairwise_map.mpr (List.Pairwise.imp_of_mem (fun {a b} ha hb ne e => ne ?_) List.nodup_range)
    rw [← ia a (List.mem_range.mp ha), ← ia b (List.mem_range.mp hb), e]
  · obtain ⟨k, hk, e⟩ := List.mem_map.mp hx
    exact e ▸ il k (List.mem_range.mp hk)
  · have hx : ps.getD i 0 < n := m.lt (List.mem_of_getElem? (getD_at (by rw [m.len]; exact hi)))
    rw [getD_map (by rw [List.length_range]; exact hx), getD_range hx]
    exact m.inj (il _ hx) hi (ia _ hx)
theorem ren_back (G : Good vs L) {ps : List Nat} (m : Mixed (L.length + 1) ps) : ren (fun i => ((List.range (L.length + 1)).map fun k => ps.idxOf k).getD i 0) (ren (fun i => ps.getD i 0) L) = L := by
  rw [ren_ren]
  exact ren_id fun p hp => ⟨m.back.2 _ (G.lt hp).1, m.back.2 _ (G.lt hp).2⟩
theorem ren_range (G : Good vs L) : ren (fun i => (List.range (L.length + 1)).getD i 0) L = L :=
  ren_id fun p hp => ⟨getD_range (G.lt hp).1, getD_range (G.lt hp).2⟩
end
end TM
set_option linter.all false
/-! bounds, books, loads. Plain Lean. -/
namespace TM
abbrev Bd := Option Nat × Option Nat × Nat
abbrev Alt := Nat × List Bd
abbrev Bk := List Alt
abbrev Ent := Nat × Nat × Nat
abbrev Ld := List Ent
def okO : Option Nat → Nat → Bool
  | none, _ => true
  | some y, x => decide (y = x)
def carts (l : Ld) (o t : Option Nat) : Nat := ((l.filter fun e => okO o e.1 && okO t e.2.1).map fun e => e.2.2).sum
def keeps (l : Ld) (b : Bd) : Bool := decide (carts l b.1 b.2.1 ≤ b.2.2)
def standsA (l : Ld) (a : Alt) : Bool := decide (carts l none none ≤ a.1) && a.2.all (keeps l)
def standsB (B : Bk) (l : Ld) : Bool := B.any (standsA l)
theorem carts_app (l m : Ld) (o t : Option Nat) : carts (l ++ m) o t = carts l o t + carts m o t := by
  unfold carts
  rw [List.filter_append, List.map_append, List.sum_append]
theorem carts_perm {l m : Ld} (h : l.Perm m) (o t : Option Nat) : carts l o t = carts m o t := ((h.filter _).map _).sum_nat
theorem carts_one (e : Ent) (o t : Option Nat) : carts [e] o t = if okO o e.1 && okO t e.2.1 then e.2.2 else 0 := by
  unfold carts
  rw [List.filter_cons]
  split <;> simp
theorem carts_cons (e : Ent) (l : Ld) (o t : Option Nat) : carts (e :: l) o t = (if okO o e.1 && okO t e.2.1 then e.2.2 else 0) + carts l o t := by
  have := carts_app [e] l o t
  rw [carts_one] at this
  exact this
theorem carts_nil (o t : Option Nat) : carts [] o t = 0 := rfl
/-- at most, however counted -/
def AtM (l m : Ld) : Prop := ∀ o t, carts l o t ≤ carts m o t
theorem AtM.keeps {l m : Ld} (h : AtM l m) {b : Bd} (k : keeps m b = true) : TM.keeps l b = true := by
  unfold TM.keeps at k ⊢
  have := h b.1 b.2.1
  exact decide_eq_true (Nat.le_trans this (of_decide_eq_true k))
theorem AtM.standsA {l m : Ld} (h : AtM l m) {a : Alt} (k : standsA m a = true) : TM.standsA l a = true := by
  unfold TM.standsA at k ⊢
  rw [Bool.and_eq_true] at k ⊢
  refine ⟨decide_eq_true (Nat.le_trans (h none none) (of_decide_eq_true k.1)), ?_⟩
  rw [List.all_eq_true]
  exact fun b hb => h.keeps (List.all_eq_true.mp k.2 b hb)
theorem AtM.stands {l m : Ld} (h : AtM l m) {B : Bk} (k : standsB B m = true) : standsB B l = true := by
  unfold standsB at k ⊢
  obtain ⟨a, ha, s⟩ := List.any_eq_true.mp k
  exact List.any_eq_true.mpr ⟨a, ha, h.standsA s⟩
theorem atM_mid {A B : Ld} {X : Ld} {e : Ent} (h : AtM X [e]) : AtM (A ++ X ++ B) (A ++ e :: B) := fun o t => by
  rw [carts_app, carts_app, carts_app, carts_cons]
  have := h o t
  rw [carts_one] at this
  omega
/-- one cart less -/
def less1 (e : Ent) : Ld := if 1 < e.2.2 then [(e.1, e.2.1, e.2.2 - 1)] else []
theorem less1_atM (e : Ent) : AtM (less1 e) [e] := fun o t => by
  unfold less1
  rw [carts_one]
  split
  · rw [carts_one]
    dsimp only
    split <;> omega
  · rw [carts_nil]
    omega
theorem stands_empty (B : Bk) {N : List Nat} (h : ∃ e : Ent, standsB B [e] = true) : standsB B [] = true := by
  obtain ⟨e, h⟩ := h
  exact AtM.stands (fun o t => by rw [carts_nil]; omega) h
/-! ### sorted loads -/
def c3 (e : Ent) : Nat := (e.1 * 2048 + e.2.1) * 2048 + e.2.2
def Sm (e : Ent) : Prop := e.1 < 2048 ∧ e.2.1 < 2048 ∧ e.2.2 < 2048
theorem c3_inj {e f : Ent} (a : Sm e) (b : Sm f) (h : c3 e = c3 f) : e = f := by
  obtain ⟨e1, e2, e3⟩ := e
  obtain ⟨f1, f2, f3⟩ := f
  unfold Sm at a b
  unfold c3 at h
  simp only at a b h
  have h1 : e1 = f1 := by omega
  have h2 : e2 = f2 := by omega
  have h3 : e3 = f3 := by omega
  rw [h1, h2, h3]
def Srt3 (l : Ld) : Prop := l.Pairwise fun e f => c3 e ≤ c3 f
theorem srt3_unique : ∀ {l m : Ld}, l.Perm m → (∀ e ∈ l, Sm e) → Srt3 l → Srt3 m → l = m
  | [], m, p, _, _, _ => (List.nil_perm.mp p).symm
  | a :: l, [], p, _, _, _ => absurd (List.perm_nil.mp p) (by simp)
  | a :: l, b :: m, p, s, h1, h2 => by
    obtain ⟨a1, a2⟩ := List.pairwise_cons.mp h1
    obtain ⟨b1, b2⟩ := List.pairwise_cons.mp h2
    have sm : ∀ e ∈ b :: m, Sm e := fun e he => s e (p.mem_iff.mpr he)
    have e : a = b := by
      have ma : a ∈ b :: m := p.mem_iff.mp List.mem_cons_self
      have mb : b ∈ a :: l := p.mem_iff.mpr List.mem_cons_self
      refine c3_inj (s a List.mem_cons_self) (sm b List.mem_cons_self) ?_
      rcases List.mem_cons.mp ma with e | ma
      · rw [e]
      · rcases List.mem_cons.mp mb with e | mb
        · rw [e]
        · exact Nat.le_antisymm (a1 b mb) (b1 a ma)
    subst e
    rw [srt3_unique (List.Perm.cons_inv p) (fun e he => s e (List.mem_cons_of_mem _ he)) a2 b2]
def tsort (l : Ld) : Ld := l.mergeSort fun e f => decide (c3 e ≤ c3 f)
theorem tsort_perm (l : Ld) : (tsort l).Perm l := List.mergeSort_perm l _
theorem tsort_srt (l : Ld) : Srt3 (tsort l) := by
  have := List.pairwise_mergeSort (le := fun e f : Ent => decide (c3 e ≤ c3 f)) (fun a b c h1 h2 => decide_eq_true (Nat.le_trans (of_decide_eq_true h1) (of_decide_eq_true h2))) (fun a b => by
    rcases Nat.le_total (c3 a) (c3 b) with h | h
    · simp [h]
    · simp [h]) l
  exact this.imp fun h => of_decide_eq_true h
theorem tsort_of {l m : Ld} (p : m.Perm l) (s : Srt3 m) (b : ∀ e ∈ l, Sm e) : m = tsort l :=
  srt3_unique (p.trans (tsort_perm l).symm) (fun e he => b e (p.mem_iff.mp he)) s (tsort_srt l)
theorem tsort_congr {l m : Ld} (p : l.Perm m) (b : ∀ e ∈ l, Sm e) : tsort l = tsort m :=
  tsort_of ((tsort_perm l).trans p) (tsort_srt l) (fun e he => b e (p.mem_iff.mpr he))
theorem tsort_self {l : Ld} (s : Srt3 l) (b : ∀ e ∈ l, Sm e) : tsort l = l := (tsort_of (List.Perm.refl l) s b).symm
/-- one cart more -/
def others (l : Ld) (o t : Nat) : Ld := l.filter fun e => !(decide (e.1 = o) && decide (e.2.1 = t))
def addL (l : Ld) (o t : Nat) : Ld := tsort (others l o t ++ [(o, t, carts l (some o) (some t) + 1)])
theorem carts_others (l : Ld) (o t : Nat) (a b : Option Nat) : carts l a b = carts (others l o t) a b + (if okO a o && okO b t then carts l (some o) (some t) else 0) := by
  induction l with
  | nil => simp [carts, others]
  | cons e l ih =>
    by_cases h : e.1 = o ∧ e.2.1 = t
    · obtain ⟨h1, h2⟩ := h
      have ef : others (e :: l) o t = others l o t := by
        unfold others
        rw [List.filter_cons, if_neg (by simp [h1, h2])]
      have e2 : carts (e :: l) (some o) (some t) = e.2.2 + carts l (some o) (some t) := by
        rw [carts_cons, if_pos (by simp [okO, h1, h2])]
      rw [ef, e2, carts_cons, h1, h2, ih]
      split <;> omega
    · have hn : (decide (e.1 = o) && decide (e.2.1 = t)) = false := by
        rw [Bool.and_eq_false_iff]
        by_cases c : e.1 = o
        · exact .inr (decide_eq_false fun z => h ⟨c, z⟩)
        · exact .inl (decide_eq_false c)
      have ef : others (e :: l) o t = e :: others l o t := by
        unfold others
        rw [List.filter_cons, if_pos (by rw [hn]; rfl)]
      have hn2 : (okO (some o) e.1 && okO (some t) e.2.1) = false := by
        show (decide (o = e.1) && decide (t = e.2.1)) = false
        rw [Bool.and_eq_false_iff] at hn ⊢
        exact hn.imp (fun z => decide_eq_false fun y => of_decide_eq_false z y.symm) (fun z => decide_eq_false fun y => of_decide_eq_false z y.symm)
      have e2 : carts (e :: l) (some o) (some t) = carts l (some o) (some t) := by
        rw [carts_cons, hn2, if_neg (by decide), Nat.zero_add]
      rw [ef, e2, carts_cons, carts_cons, ih]
      omega
theorem carts_add (l : Ld) (o t : Nat) (a b : Option Nat) : carts (addL l o t) a b = carts l a b + (if okO a o && okO b t then 1 else 0) := by
  unfold addL
  rw [carts_perm (tsort_perm _), carts_app, carts_one, carts_others l o t a b]
  dsimp only
  split <;> omega
theorem add_more (l : Ld) (o t : Nat) : AtM l (addL l o t) := fun a b => by rw [carts_add]; omega
/-- a load is at most another one: pair by pair -/
def withinL (l m : Ld) : Bool := l.all fun e => decide (e.2.2 ≤ carts m (some e.1) (some e.2.1))
theorem carts_mem {l : Ld} {e : Ent} (h : e ∈ l) : e.2.2 ≤ carts l (some e.1) (some e.2.1) := by
  induction l with
  | nil => cases h
  | cons x l ih =>
    rw [carts_cons]
    rcases List.mem_cons.mp h with c | c
    · subst c
      simp [okO]
    · have := ih c
      omega
theorem within_add (l : Ld) (o t : Nat) : withinL l (addL l o t) = true := by
  unfold withinL
  rw [List.all_eq_true]
  intro e he
  have := carts_mem he
  have := add_more l o t (some e.1) (some e.2.1)
  exact decide_eq_true (by omega)
theorem add_within (l : Ld) (o t : Nat) : withinL (addL l o t) l = false := by
  unfold withinL
  rw [List.all_eq_false]
  refine ⟨(o, t, carts l (some o) (some t) + 1), ?_, ?_⟩
  · unfold addL
    rw [(tsort_perm _).mem_iff]
    simp
  · simp
/-! ### what is a book, what is a load -/
def pairsN (N : List Nat) : List (Nat × Nat) := N.flatMap fun o => (N.filter fun t => !decide (o = t)).map fun t => (o, t)
theorem mem_pairs {N : List Nat} {o t : Nat} : (o, t) ∈ pairsN N ↔ o ∈ N ∧ t ∈ N ∧ o ≠ t := by
  unfold pairsN
  rw [List.mem_flatMap]
  constructor
  · rintro ⟨x, hx, h⟩
    obtain ⟨y, hy, e⟩ := List.mem_map.mp h
    injection e with e1 e2
    subst e1; subst e2
    obtain ⟨h1, h2⟩ := List.mem_filter.mp hy
    exact ⟨hx, h1, fun z => by subst z; simp at h2⟩
  · rintro ⟨h1, h2, h3⟩
    exact ⟨o, h1, List.mem_map.mpr ⟨t, List.mem_filter.mpr ⟨h2, by simp [h3]⟩, rfl⟩⟩
structure GoodB (N : List Nat) (b : Bd) : Prop where
  some_ : b.1 ≠ none ∨ b.2.1 ≠ none
  or_ : ∀ o, b.1 = some o → o ∈ N
  tg : ∀ t, b.2.1 = some t → t ∈ N
  ne : ∀ o t, b.1 = some o → b.2.1 = some t → o ≠ t
  most : b.2.2 ≤ 6
structure GoodA (N : List Nat) (a : Alt) : Prop where
  least : 1 ≤ a.1
  most : a.1 ≤ 6
  few : a.2.length ≤ 6
  bs : ∀ b ∈ a.2, GoodB N b
structure GoodBk (N : List Nat) (B : Bk) : Prop where
  least : 1 ≤ B.length
  most : B.length ≤ 4
  as_ : ∀ a ∈ B, GoodA N a
  single : ∀ o t, (o, t) ∈ pairsN N → standsB B [(o, t, 1)] = true
/-- pairs in their order -/
def lt2 (e f : Ent) : Prop := e.1 < f.1 ∨ (e.1 = f.1 ∧ e.2.1 < f.2.1)
structure GoodL (N : List Nat) (l : Ld) : Prop where
  pr : ∀ e ∈ l, (e.1, e.2.1) ∈ pairsN N
  pos : ∀ e ∈ l, 0 < e.2.2
  srt : l.Pairwise lt2
theorem GoodL.nil (N : List Nat) : GoodL N [] := ⟨fun _ h => (nomatch h), fun _ h => (nomatch h), .nil⟩
theorem lt2_trans {e f g : Ent} (h1 : lt2 e f) (h2 : lt2 f g) : lt2 e g := by
  unfold lt2 at h1 h2 ⊢
  omega
theorem lt2_c3 {e f : Ent} (a : Sm e) (b : Sm f) (h : lt2 e f) : c3 e ≤ c3 f := by
  unfold lt2 at h
  unfold Sm at a b
  unfold c3
  omega
theorem c3_lt2 {e f : Ent} (a : Sm e) (b : Sm f) (h : c3 e ≤ c3 f) (ne : ¬ (e.1 = f.1 ∧ e.2.1 = f.2.1)) : lt2 e f := by
  unfold Sm at a b
  unfold c3 at h
  unfold lt2
  omega
/-- sorted anew, where the pairs are unlike -/
theorem srt_lt2 {l : Ld} (b : ∀ e ∈ l, Sm e) (nd : l.Pairwise fun e f => ¬ (e.1 = f.1 ∧ e.2.1 = f.2.1)) : (tsort l).Pairwise lt2 := by
  have sy : ∀ {l : Ld}, l.Pairwise (fun e f => ¬ (e.1 = f.1 ∧ e.2.1 = f.2.1)) → ∀ {m : Ld}, m.Perm l → m.Pairwise fun e f => ¬ (e.1 = f.1 ∧ e.2.1 = f.2.1) := fun h m p => (p.symm.pairwise_iff fun {x y} h z => h ⟨z.1.symm, z.2.symm⟩).mp h
  have h1 := sy nd (tsort_perm l)
  have h2 := tsort_srt l
  exact (List.Pairwise.imp_of_mem (fun {x y} hx hy h => c3_lt2 (b x ((tsort_perm l).mem_iff.mp hx)) (b y ((tsort_perm l).mem_iff.mp hy)) h.2 h.1) (h1.and h2))
theorem GoodL.unlike {N : List Nat} {l : Ld} (g : GoodL N l) : l.Pairwise fun e f => ¬ (e.1 = f.1 ∧ e.2.1 = f.2.1) := g.srt.imp fun h z => by
  unfold lt2 at h
  omega
/-- small places, few carts -/
def SmL (l : Ld) : Prop := ∀ e ∈ l, Sm e
theorem others_sub (l : Ld) (o t : Nat) : (others l o t).Sublist l := List.filter_sublist
theorem mem_others {l : Ld} {o t : Nat} {e : Ent} (h : e ∈ others l o t) : e ∈ l ∧ ¬ (e.1 = o ∧ e.2.1 = t) := by
  obtain ⟨h1, h2⟩ := List.mem_filter.mp h
  refine ⟨h1, fun z => ?_⟩
  simp [z.1, z.2] at h2
theorem add_sm {N : List Nat} {l : Ld} {o t : Nat} (sN : ∀ x ∈ N, x < 1024) (s : SmL l) (p : (o, t) ∈ pairsN N) (k : carts l (some o) (some t) < 2000) : SmL (others l o t ++ [(o, t, carts l (some o) (some t) + 1)]) := fun e he => by
  rcases List.mem_append.mp he with h | h
  · exact s e (mem_others h).1
  · rw [List.mem_singleton.mp h]
    obtain ⟨a, b, _⟩ := mem_pairs.mp p
    have := sN o a
    have := sN t b
    unfold Sm
    simp only
    omega
theorem GoodL.add {N : List Nat} {l : Ld} (g : GoodL N l) {o t : Nat} (sN : ∀ x ∈ N, x < 1024) (s : SmL l) (p : (o, t) ∈ pairsN N) (k : carts l (some o) (some t) < 2000) : GoodL N (addL l o t) := by
  have sm := add_sm sN s p k
  refine ⟨fun e he => ?_, fun e he => ?_, srt_lt2 sm ?_⟩
  · rcases List.mem_append.mp ((tsort_perm _).mem_iff.mp he) with h | h
    · exact g.pr e (mem_others h).1
    · rw [List.mem_singleton.mp h]
      exact p
  · rcases List.mem_append.mp ((tsort_perm _).mem_iff.mp he) with h | h
    · exact g.pos e (mem_others h).1
    · rw [List.mem_singleton.mp h]
      exact Nat.succ_pos _
  · refine List.pairwise_append.mpr ⟨g.unlike.sublist (others_sub l o t), List.pairwise_singleton _ _, fun e he f hf => ?_⟩
    rw [List.mem_singleton.mp hf]
    exact (mem_others he).2
theorem GoodL.less {N : List Nat} {A B : Ld} {e : Ent} (g : GoodL N (A ++ e :: B)) : GoodL N (A ++ less1 e ++ B) := by
  have sub : ∀ f ∈ A ++ less1 e ++ B, (∃ f' ∈ A ++ e :: B, f.1 = f'.1 ∧ f.2.1 = f'.2.1) ∧ 0 < f.2.2 := fun f hf => by
    rcases List.mem_append.mp hf with hf | hf
    · rcases List.mem_append.mp hf with hf | hf
      · exact ⟨⟨f, by simp [hf], rfl, rfl⟩, g.pos f (by simp [hf])⟩
      · unfold less1 at hf
        split at hf
        · rw [List.mem_singleton.mp hf]
          exact ⟨⟨e, by simp, rfl, rfl⟩, by simp only; omega⟩
        · cases hf
    · exact ⟨⟨f, by simp [hf], rfl, rfl⟩, g.pos f (by simp [hf])⟩
  refine ⟨fun f hf => ?_, fun f hf => (sub f hf).2, ?_⟩
  · obtain ⟨⟨f', h1, h2, h3⟩, _⟩ := sub f hf
    rw [h2, h3]
    exact g.pr f' h1
  · have s := g.srt
    obtain ⟨sA, sB, sAB⟩ := List.pairwise_append.mp s
    obtain ⟨e1, sB⟩ := List.pairwise_cons.mp sB
    unfold less1
    split
    · rw [List.append_assoc]
      refine List.pairwise_append.mpr ⟨sA, List.pairwise_cons.mpr ⟨fun f hf => e1 f hf, sB⟩, fun x hx y hy => ?_⟩
      rcases List.mem_cons.mp hy with h | h
      · rw [h]
        exact sAB x hx e List.mem_cons_self
      · exact sAB x hx y (List.mem_cons_of_mem _ h)
    · rw [List.append_nil]
      exact List.pairwise_append.mpr ⟨sA, sB, fun x hx y hy => sAB x hx y (List.mem_cons_of_mem _ hy)⟩
theorem length_carts {l : Ld} (h : ∀ e ∈ l, 0 < e.2.2) : l.length ≤ carts l none none := by
  induction l with
  | nil => exact Nat.zero_le _
  | cons e l ih =>
    rw [carts_cons, List.length_cons]
    have h1 := h e List.mem_cons_self
    have h2 := ih fun x hx => h x (List.mem_cons_of_mem _ hx)
    simp only [okO, Bool.and_self, if_true]
    omega
theorem one_carts {l : Ld} {e : Ent} (h : e ∈ l) : e.2.2 ≤ carts l none none := by
  induction l with
  | nil => cases h
  | cons x l ih =>
    rw [carts_cons]
    simp only [okO, Bool.and_self, if_true]
    rcases List.mem_cons.mp h with c | c
    · subst c
      omega
    · have := ih c
      omega
theorem carts_le (l : Ld) (o t : Option Nat) : carts l o t ≤ carts l none none := by
  induction l with
  | nil => exact Nat.le_refl _
  | cons x l ih =>
    have h0 : (okO none x.1 && okO none x.2.1) = true := rfl
    rw [carts_cons, carts_cons x l none none, if_pos h0]
    split <;> omega
theorem all_in {α : Type} {f g : α → Bool} : ∀ {l : List α}, (∀ a ∈ l, f a = g a) → l.all f = l.all g
  | [], _ => rfl
  | a :: l, h => by rw [List.all_cons, List.all_cons, h a List.mem_cons_self, all_in fun b hb => h b (List.mem_cons_of_mem _ hb)]
theorem any_in {α : Type} {f g : α → Bool} : ∀ {l : List α}, (∀ a ∈ l, f a = g a) → l.any f = l.any g
  | [], _ => rfl
  | a :: l, h => by rw [List.any_cons, List.any_cons, h a List.mem_cons_self, any_in fun b hb => h b (List.mem_cons_of_mem _ hb)]
theorem GoodL.smL {N : List Nat} {l : Ld} (g : GoodL N l) (sN : ∀ x ∈ N, x < 1024) (k : carts l none none < 2000) : SmL l := fun e he => by
  obtain ⟨a, b, _⟩ := mem_pairs.mp (g.pr e he)
  have := sN _ a
  have := sN _ b
  have := one_carts he
  unfold Sm
  omega
/-- other names for the places of a book, of a load -/
def ren1 (f : Nat → Nat) (b : Bd) : Bd := (b.1.map f, b.2.1.map f, b.2.2)
def renB (f : Nat → Nat) (B : Bk) : Bk := B.map fun a => (a.1, a.2.map (ren1 f))
def renE (f : Nat → Nat) (e : Ent) : Ent := (f e.1, f e.2.1, e.2.2)
def renL (f : Nat → Nat) (l : Ld) : Ld := l.map (renE f)
theorem okO_ren {f : Nat → Nat} {N : List Nat} (inj : ∀ a ∈ N, ∀ b ∈ N, f a = f b → a = b) {o : Option Nat} {x : Nat} (ho : ∀ y, o = some y → y ∈ N) (hx : x ∈ N) : okO (o.map f) (f x) = okO o x := by
  cases o with
  | none => rfl
  | some y =>
    show decide (f y = f x) = decide (y = x)
    exact decide_eq_decide.mpr ⟨fun z => inj y (ho y rfl) x hx z, fun z => congrArg f z⟩
theorem carts_ren {f : Nat → Nat} {N : List Nat} (inj : ∀ a ∈ N, ∀ b ∈ N, f a = f b → a = b) {o t : Option Nat} (ho : ∀ y, o = some y → y ∈ N) (ht : ∀ y, t = some y → y ∈ N) : ∀ {l : Ld}, (∀ e ∈ l, e.1 ∈ N ∧ e.2.1 ∈ N) → carts (renL f l) (o.map f) (t.map f) = carts l o t
  | [], _ => rfl
  | e :: l, h => by
    have ih := carts_ren inj ho ht (l := l) fun x hx => h x (List.mem_cons_of_mem _ hx)
    obtain ⟨h1, h2⟩ := h e List.mem_cons_self
    show carts (renE f e :: renL f l) _ _ = _
    rw [carts_cons, carts_cons, ih]
    show (if okO (o.map f) (f e.1) && okO (t.map f) (f e.2.1) then e.2.2 else 0) + _ = _
    rw [okO_ren inj ho h1, okO_ren inj ht h2]
theorem GoodB.in_ {N : List Nat} {b : Bd} (g : GoodB N b) : (∀ y, b.1 = some y → y ∈ N) ∧ (∀ y, b.2.1 = some y → y ∈ N) := ⟨g.or_, g.tg⟩
theorem stands_ren {f : Nat → Nat} {N : List Nat} (inj : ∀ a ∈ N, ∀ b ∈ N, f a = f b → a = b) {B : Bk} (gB : ∀ a ∈ B, GoodA N a) {l : Ld} (hl : ∀ e ∈ l, e.1 ∈ N ∧ e.2.1 ∈ N) : standsB (renB f B) (renL f l) = standsB B l := by
  unfold standsB renB
  rw [List.any_map]
  refine any_in fun a ha => ?_
  show standsA (renL f l) (a.1, a.2.map (ren1 f)) = standsA l a
  unfold standsA
  have h0 : carts (renL f l) none none = carts l none none := carts_ren (o := none) (t := none) inj (fun _ h => nomatch h) (fun _ h => nomatch h) hl
  rw [h0]
  congr 1
  rw [List.all_map]
  refine all_in fun b hb => ?_
  show keeps (renL f l) (ren1 f b) = keeps l b
  unfold keeps
  have g := ((gB a ha).bs b hb).in_
  have e : carts (renL f l) (ren1 f b).1 (ren1 f b).2.1 = carts l b.1 b.2.1 := carts_ren inj g.1 g.2 hl
  rw [e]
  rfl
theorem stands_sort (B : Bk) {l m : Ld} (p : l.Perm m) : standsB B l = standsB B m := by
  unfold standsB
  refine any_in fun a _ => ?_
  unfold standsA
  rw [carts_perm p]
  congr 1
  refine all_in fun b _ => ?_
  unfold keeps
  rw [carts_perm p]
theorem GoodL.in_ {N : List Nat} {l : Ld} (g : GoodL N l) : ∀ e ∈ l, e.1 ∈ N ∧ e.2.1 ∈ N := fun e he => ⟨(mem_pairs.mp (g.pr e he)).1, (mem_pairs.mp (g.pr e he)).2.1⟩
theorem GoodB.ren {f : Nat → Nat} {N N' : List Nat} (inj : ∀ a ∈ N, ∀ b ∈ N, f a = f b → a = b) (on : ∀ x ∈ N, f x ∈ N') {b : Bd} (g : GoodB N b) : GoodB N' (ren1 f b) := by
  obtain ⟨o, t, n⟩ := b
  refine ⟨?_, fun o' h => ?_, fun t' h => ?_, fun o' t' h1 h2 => ?_, g.most⟩
  · rcases g.some_ with h | h
    · left
      cases o with
      | none => exact absurd rfl h
      | some o => exact fun z => nomatch z
    · right
      cases t with
      | none => exact absurd rfl h
      | some t => exact fun z => nomatch z
  · cases o with
    | none => cases h
    | some o => cases h; exact on o (g.or_ o rfl)
  · cases t with
    | none => cases h
    | some t => cases h; exact on t (g.tg t rfl)
  · cases o with
    | none => cases h1
    | some o =>
      cases t with
      | none => cases h2
      | some t =>
        cases h1; cases h2
        exact fun z => g.ne o t rfl rfl (inj o (g.or_ o rfl) t (g.tg t rfl) z)
theorem GoodA.ren {f : Nat → Nat} {N N' : List Nat} (inj : ∀ a ∈ N, ∀ b ∈ N, f a = f b → a = b) (on : ∀ x ∈ N, f x ∈ N') {a : Alt} (g : GoodA N a) : GoodA N' (a.1, a.2.map (ren1 f)) :=
  ⟨g.least, g.most, by rw [List.length_map]; exact g.few, fun b hb => by
    obtain ⟨c, hc, e⟩ := List.mem_map.mp hb
    exact e ▸ (g.bs c hc).ren inj on⟩
/-- a book with other names is one -/
theorem GoodBk.ren {f : Nat → Nat} {N N' : List Nat} (inj : ∀ a ∈ N, ∀ b ∈ N, f a = f b → a = b) (on : ∀ x ∈ N, f x ∈ N') (off : ∀ y ∈ N', ∃ x ∈ N, f x = y) {B : Bk} (g : GoodBk N B) : GoodBk N' (renB f B) := by
  refine ⟨by unfold renB; rw [List.length_map]; exact g.least, by unfold renB; rw [List.length_map]; exact g.most, fun a ha => ?_, fun o t h => ?_⟩
  · obtain ⟨c, hc, e⟩ := List.mem_map.mp ha
    exact e ▸ (g.as_ c hc).ren inj on
  · obtain ⟨ho, ht, ne⟩ := mem_pairs.mp h
    obtain ⟨o', ho', rfl⟩ := off o ho
    obtain ⟨t', ht', rfl⟩ := off t ht
    have := stands_ren inj g.as_ (l := [(o', t', 1)]) (fun e he => by rw [List.mem_singleton.mp he]; exact ⟨ho', ht'⟩)
    rw [show renL f [(o', t', 1)] = [(f o', f t', 1)] from rfl] at this
    rw [this]
    exact g.single o' t' (mem_pairs.mpr ⟨ho', ht', fun z => ne (congrArg f z)⟩)
theorem GoodL.ren {f : Nat → Nat} {N N' : List Nat} (inj : ∀ a ∈ N, ∀ b ∈ N, f a = f b → a = b) (on : ∀ x ∈ N, f x ∈ N') {l : Ld} (g : GoodL N l) (sm : ∀ e ∈ renL f l, Sm e) : GoodL N' (tsort (renL f l)) := by
  have mem : ∀ {e : Ent}, e ∈ tsort (renL f l) → ∃ c ∈ l, renE f c = e := fun h => List.mem_map.mp ((tsort_perm _).mem_iff.mp h)
  refine ⟨fun e he => ?_, fun e he => ?_, srt_lt2 sm ?_⟩
  · obtain ⟨c, hc, rfl⟩ := mem he
    obtain ⟨h1, h2, h3⟩ := mem_pairs.mp (g.pr c hc)
    exact mem_pairs.mpr ⟨on _ h1, on _ h2, fun z => h3 (inj _ h1 _ h2 z)⟩
  · obtain ⟨c, hc, rfl⟩ := mem he
    exact g.pos c hc
  · unfold renL
    refine List.pairwise_map.mpr (List.Pairwise.imp_of_mem (fun {a b} ha hb h z => ?_) g.unlike)
    obtain ⟨a1, a2⟩ := g.in_ a ha
    obtain ⟨b1, b2⟩ := g.in_ b hb
    exact h ⟨inj _ a1 _ b1 z.1, inj _ a2 _ b2 z.2⟩
end TM
set_option Elab.async false
set_option linter.all false
set_option maxRecDepth 100000
set_option maxHeartbeats 4000000
/-! what is made of the known and of the new -/
namespace Nw
open PySem PySem.Spec PyProof.Rows L2 Ep
open Evl (Ex Ev EvT EvA EvL EvU)
abbrev Rep (β : Type) := Hp → V → β → Prop
def Mono {β : Type} (S : Rep β) : Prop := ∀ H H' v b, Ex H H' → S H v b → S H' v b
/-- Hn: of the base H0, and of what is new since H1 -/
def Mk (H0 H1 H2 Hn : Hp) : Prop := ∀ b o, Hn b = some o → H2 b = some o ∧ (H0 b = some o ∨ H1 b = none)
def NewR {β : Type} (S : Rep β) (H0 : Hp) (x : β) : VP := fun v H1 H2 => ∃ Hn, Mk H0 H1 H2 Hn ∧ S Hn v x
section
variable {β : Type} {S : Rep β} {H0 H0' H1 H2 H3 Hn : Hp} {x : β} {v : V}
theorem Mk.ex (h : Mk H0 H1 H2 Hn) : Ex Hn H2 := fun b o k => (h b o k).1
theorem Mk.on (h : Mk H0 H1 H2 Hn) (e : Ex H2 H3) : Mk H0 H1 H3 Hn := fun b o k => ⟨e _ _ (h b o k).1, (h b o k).2⟩
theorem Mk.back {Ha : Hp} (h : Mk H0 H1 H2 Hn) (e : Ex Ha H1) : Mk H0 Ha H2 Hn := fun b o k => ⟨(h b o k).1, (h b o k).2.imp id (Evl.fresh_back e)⟩
theorem Mk.base (h : Mk H0 H1 H2 Hn) (e : Ex H0 H0') : Mk H0' H1 H2 Hn := fun b o k => ⟨(h b o k).1, (h b o k).2.imp (e _ _) id⟩
theorem NewR.on (h : NewR S H0 x v H1 H2) (e : Ex H2 H3) : NewR S H0 x v H1 H3 := by
  obtain ⟨Hn, m, s⟩ := h
  exact ⟨Hn, m.on e, s⟩
theorem NewR.back {Ha : Hp} (h : NewR S H0 x v H1 H2) (e : Ex Ha H1) : NewR S H0 x v Ha H2 := by
  obtain ⟨Hn, m, s⟩ := h
  exact ⟨Hn, m.back e, s⟩
theorem NewR.at_ (mo : Mono S) (h : NewR S H0 x v H1 H2) : S H2 v x := by
  obtain ⟨Hn, m, s⟩ := h
  exact mo _ _ _ _ m.ex s
/-- a change at something that was there, but not of the base -/
theorem Mk.mut (h : Mk H0 H1 H2 Hn) {D : Addr} {o : HO} (h0 : H0 D = none) (h1 : H1 D ≠ none) : Ex Hn (upd H2 D o) := fun b u k => by
  have n : b ≠ D := fun z => by
    rcases (h b u k).2 with a | a
    · rw [z, h0] at a
      cases a
    · exact h1 (z ▸ a)
  rw [upd_ne n]
  exact (h b u k).1
theorem newR_old (h : S H0 v x) (e : Ex H0 H2) : NewR S H0 x v H1 H2 := ⟨H0, fun b o k => ⟨e _ _ k, .inl k⟩, h⟩
end
/-- two parts together -/
def join (Ha Hb : Hp) : Hp := fun b => match Ha b with
  | some o => some o
  | none => Hb b
theorem Mk.join {H0 H1 H2 Ha Hb : Hp} (a : Mk H0 H1 H2 Ha) (b : Mk H0 H1 H2 Hb) : Mk H0 H1 H2 (join Ha Hb) ∧ Ex Ha (Nw.join Ha Hb) ∧ Ex Hb (Nw.join Ha Hb) := by
  refine ⟨fun c o k => ?_, fun c o k => ?_, fun c o k => ?_⟩
  · unfold Nw.join at k
    cases e : Ha c with
    | some u => rw [e] at k; exact a c o (e.trans k)
    | none => rw [e] at k; exact b c o k
  · unfold Nw.join
    rw [k]
  · unfold Nw.join
    cases e : Ha c with
    | some u =>
      have h1 := (a c u e).1
      have h2 := (b c o k).1
      rw [h1] at h2
      exact h2
    | none => exact k
theorem Mk.put {H0 H1 H2 Ha : Hp} (a : Mk H0 H1 H2 Ha) {p : Addr} {o : HO} (f : H2 p = none) (f1 : H1 p = none) : Mk H0 H1 (upd H2 p o) (upd Ha p o) ∧ Ex Ha (upd Ha p o) := by
  have fa : Ha p = none := by
    cases e : Ha p with
    | none => rfl
    | some u => rw [(a p u e).1] at f; cases f
  refine ⟨fun c u k => ?_, Ex.new fa⟩
  by_cases n : c = p
  · subst n
    rw [upd_same] at k ⊢
    exact ⟨k, .inr f1⟩
  · rw [upd_ne n] at k ⊢
    exact a c u k
/-! ### lists of such -/
def LstOf {β : Type} (S : Rep β) : Rep (List β) := fun H v l => ∃ p vs, v = .ref p ∧ H p = some (.lst vs) ∧ Paired (S H) vs l
def TupOf {β : Type} (S : Rep β) : Rep (List β) := fun H v l => ∃ p vs, v = .ref p ∧ H p = some (.tup vs) ∧ Paired (S H) vs l
theorem pimp {α β : Type} {R S : α → β → Prop} (k : ∀ a b, R a b → S a b) : ∀ {xs : List α} {ys : List β}, Paired R xs ys → Paired S xs ys
  | _, _, .nil => .nil
  | _, _, .cons h t => .cons (k _ _ h) (pimp k t)
theorem pix {α β : Type} {R : α → β → Prop} : ∀ {xs : List α} {ys : List β} {i : Nat} {x : α}, Paired R xs ys → xs[i]? = some x → ∃ y, ys[i]? = some y ∧ R x y
  | _, _, _, _, .nil, e => by simp at e
  | _, _, 0, _, .cons r _, e => by simp at e; subst e; exact ⟨_, rfl, r⟩
  | _, _, i + 1, x, .cons _ t, e => by
    obtain ⟨u, h1, h2⟩ := pix (i := i) (x := x) t (by simpa using e)
    exact ⟨u, by simpa using h1, h2⟩
theorem piy {α β : Type} {R : α → β → Prop} : ∀ {xs : List α} {ys : List β} {i : Nat} {y : β}, Paired R xs ys → ys[i]? = some y → ∃ x, xs[i]? = some x ∧ R x y
  | _, _, _, _, .nil, e => by simp at e
  | _, _, 0, _, .cons r _, e => by simp at e; subst e; exact ⟨_, rfl, r⟩
  | _, _, i + 1, x, .cons _ t, e => by
    obtain ⟨u, h1, h2⟩ := piy (i := i) (y := x) t (by simpa using e)
    exact ⟨u, by simpa using h1, h2⟩
theorem papp {α β : Type} {R : α → β → Prop} : ∀ {xs us : List α} {ys ws : List β}, Paired R xs ys → Paired R us ws → Paired R (xs ++ us) (ys ++ ws)
  | _, _, _, _, .nil, h => h
  | _, _, _, _, .cons h t, k => .cons h (papp t k)
theorem Mono.paired {β : Type} {S : Rep β} (mo : Mono S) {H H' : Hp} (e : Ex H H') {vs : List V} {l : List β} (h : Paired (S H) vs l) : Paired (S H') vs l := pimp (fun a b k => mo _ _ _ _ e k) h
theorem Mono.lst {β : Type} {S : Rep β} (mo : Mono S) : Mono (LstOf S) := fun H H' v b e ⟨p, vs, r, k, h⟩ => ⟨p, vs, r, e _ _ k, mo.paired e h⟩
theorem Mono.tup {β : Type} {S : Rep β} (mo : Mono S) : Mono (TupOf S) := fun H H' v b e ⟨p, vs, r, k, h⟩ => ⟨p, vs, r, e _ _ k, mo.paired e h⟩
section
variable {K : PySem.W.Frag} {σ : L2.St} {H : Hp}
def NewLst {β : Type} (S : Rep β) (H0 : Hp) (l : List β) : VP := fun v H1 H2 => ∃ p vs Hn, v = .ref p ∧ H1 p = none ∧ Mk H0 H1 H2 Hn ∧ Hn p = some (.lst vs) ∧ Paired (S Hn) vs l
theorem NewLst.r {β : Type} {S : Rep β} {H0 H1 H2 : Hp} {l : List β} {v : V} (h : NewLst S H0 l v H1 H2) : NewR (LstOf S) H0 l v H1 H2 := by
  obtain ⟨p, vs, Hn, r, _, m, k, h⟩ := h
  exact ⟨Hn, m, p, vs, r, k, h⟩
theorem NewLst.back {β : Type} {S : Rep β} {H0 H1 H2 Ha : Hp} {l : List β} {v : V} (h : NewLst S H0 l v H1 H2) (e : Ex Ha H1) : NewLst S H0 l v Ha H2 := by
  obtain ⟨p, vs, Hn, r, f, m, k, h⟩ := h
  exact ⟨p, vs, Hn, r, Evl.fresh_back e f, m.back e, k, h⟩
theorem NewLst.on {β : Type} {S : Rep β} {H0 H1 H2 H3 : Hp} {l : List β} {v : V} (h : NewLst S H0 l v H1 H2) (e : Ex H2 H3) : NewLst S H0 l v H1 H3 := by
  obtain ⟨p, vs, Hn, r, f, m, k, h⟩ := h
  exact ⟨p, vs, Hn, r, f, m.on e, k, h⟩
theorem NewLst.base {β : Type} {S : Rep β} {H0 H0' H1 H2 : Hp} {l : List β} {v : V} (h : NewLst S H0 l v H1 H2) (e : Ex H0 H0') : NewLst S H0' l v H1 H2 := by
  obtain ⟨p, vs, Hn, r, f, m, k, h⟩ := h
  exact ⟨p, vs, Hn, r, f, m.base e, k, h⟩
/-- a comprehension, its word told of the heap where it begins -/
theorem lcJ {wi : TI} {g : TG} {tt : TT} {te : TE} {vs : List Nat} {n : Nat} {X : Nat → V → Prop} (s : Src wi σ H n X) (hn : n ≤ 50000) (st : Nat → V → L2.St) (hw : ∀ i x, wipe (st i x) vs = wipe σ vs) (I : Hp → Addr → Nat → List V → Hp → Prop)
    (hg : ∀ i x H1 Q, Ex H H1 → i < n → X i x → Q (st i x) H1 → g x (wipe σ vs) H1 Q) (f : Nat → Bool)
    (ht : ∀ i x H1, Ex H H1 → i < n → X i x → EvT tt (st i x) H1 (f i)) (P : Nat → VP)
    (he : ∀ i x H1, Ex H H1 → i < n → X i x → f i = true → EvP te (st i x) H1 (P i))
    (i0 : ∀ Hs D H1, Ex H Hs → Ex Hs H1 → Hs D = none → I Hs D 0 [] H1) (iE : ∀ Hs D i ys Ha Hb, Ex Ha Hb → I Hs D i ys Ha → I Hs D i ys Hb)
    (iY : ∀ Hs D i ys v Ha Hb, Ex H Hs → Ex Hs Ha → Hs D = none → Ex Ha Hb → Ha D = some (.lst ys) → i < n → f i = true → I Hs D i ys Ha → P i v Ha Hb → ∀ xs, I Hs D (i + 1) (ys ++ [v]) (upd Hb D (.lst xs))) (iN : ∀ Hs D i ys Ha, Ex H Ha → i < n → f i = false → I Hs D i ys Ha → I Hs D (i + 1) ys Ha) :
    EvP (tLc wi g tt te vs) σ H (fun v H1 H2 => ∃ p ys, v = .ref p ∧ H1 p = none ∧ H2 p = some (.lst ys) ∧ ys.length ≤ n ∧ I H1 p n ys H2) := fun H0 e0 Q q => by
  refine s H0 e0 _ fun J H1 G e1 hG hW D hD => ?_
  have f0 := Evl.fresh_back e1 hD
  have iE0 : ∀ o, Ex H1 (upd H1 D o) := fun o => Ex.new hD
  refine lc_it hW (fun i H' => ∃ ys, Ex H1 H' ∧ I H0 D i ys H' ∧ ys.length ≤ i ∧ H' D = some (.lst ys)) ⟨[], iE0 _, i0 H0 D _ e0 (e1.trans (iE0 _)) f0, Nat.le_refl _, upd_same⟩
    (fun i H' _ ⟨ys, a, _, _, _⟩ => hG _ a) (fun i x Ha Hb hi ⟨ys, a, hI, hl, c⟩ y => ?_) (fun H' ⟨ys, a, hI, hl, c⟩ => q (.ref D) H' (e1.trans a) ⟨D, ys, rfl, f0, c, hl, hI⟩)
  obtain ⟨rfl, hX⟩ := y
  have eA : Ex H Hb := (e0.trans e1).trans a
  refine hg i x Hb _ eA hi hX ⟨hw i x, ?_⟩
  refine ht i x Hb eA hi hX Hb (Ex.refl _) _ fun Hc ec => ?_
  cases hf : f i with
  | true =>
    refine iteT ?_
    refine he i x Hb eA hi hX hf Hc ec _ fun v Hd ed p => ?_
    refine ⟨ys, ed _ _ (ec _ _ c), Nat.lt_of_le_of_lt hl (Nat.lt_of_lt_of_le hi (Nat.le_trans hn (by decide))), ys ++ [v], ?_, ?_, ?_, upd_same⟩
    · exact Ex.mut ((a.trans ec).trans ed) hD
    · exact iY H0 D i ys v Hc Hd e0 ((e1.trans a).trans ec) f0 ed (ec _ _ c) hi hf (iE _ _ _ _ _ _ ec hI) p _
    · simp
      exact hl
  | false =>
    refine iteF ?_
    exact ⟨ys, a.trans ec, iN H0 D i ys Hc (eA.trans ec) hi hf (iE _ _ _ _ _ _ ec hI), Nat.le_succ_of_le hl, ec _ _ c⟩
theorem tk_more {α : Type} : ∀ {l : List α} {i : Nat} {x : α}, l[i]? = some x → l.take (i + 1) = l.take i ++ [x]
  | [], i, x, h => by simp at h
  | a :: l, 0, x, h => by
    have e : a = x := Option.some.inj h
    subst e
    rfl
  | a :: l, i + 1, x, h => by
    have ih := tk_more (l := l) (i := i) (x := x) h
    show a :: l.take (i + 1) = a :: l.take i ++ [x]
    rw [ih]
    rfl
/-- [F a for a in L if f a]: what is made of each stands of the base and of the new -/
theorem lcG {α β : Type} [Inhabited α] {R : Rep α} {S : Rep β} (mR : Mono R) (mS : Mono S) {wi : TI} {g : TG} {tt : TT} {te : TE} {vs : List Nat} {ls : List V} {L : List α} (s : Src wi σ H ls.length (fun i v => ls[i]? = some v)) (hp : Paired (R H) ls L) (hn : L.length ≤ 50000) (st : α → V → L2.St) (hw : ∀ a x, wipe (st a x) vs = wipe σ vs)
    (hg : ∀ a x H1 Q, a ∈ L → Ex H H1 → R H x a → R H1 x a → Q (st a x) H1 → g x (wipe σ vs) H1 Q) (f : α → Bool)
    (ht : ∀ a x, a ∈ L → R H x a → EvT tt (st a x) H (f a)) (F : α → β)
    (he : ∀ a x, a ∈ L → R H x a → f a = true → EvP te (st a x) H (NewR S H (F a))) :
    EvP (tLc wi g tt te vs) σ H (NewLst S H ((L.filter f).map F)) := by
  have hll : ls.length = L.length := PySem.Paired.length hp
  have at_ : ∀ {i : Nat} {x : V} {H1 : Hp}, ls[i]? = some x → Ex H H1 → R H1 x (L.getD i default) ∧ L.getD i default ∈ L ∧ L[i]? = some (L.getD i default) := fun {i x H1} hx e => by
    obtain ⟨q, hq, r⟩ := pix hp hx
    have : L.getD i default = q := by rw [List.getD_eq_getElem?_getD, hq]; rfl
    exact ⟨this ▸ mR _ _ _ _ e r, this ▸ List.mem_of_getElem? hq, this ▸ hq⟩
  refine EvP.imp (lcJ s (by omega) (fun i x => st (L.getD i default) x) (fun _ _ => hw _ _) (fun Hs D i ys H' => ∃ Hn, Mk H Hs H' Hn ∧ Hn D = none ∧ Paired (S Hn) ys (((L.take i).filter f).map F)) (fun i x H1 Q e hi hx q => ?_) (fun i => f (L.getD i default)) (fun i x H1 e hi hx => ?_) (fun i => NewR S H (F (L.getD i default)))
    (fun i x H1 e hi hx hf => ?_) (fun Hs D H1 e e2 hD => ?_) (fun Hs D i ys Ha Hb e h => ?_) (fun Hs D i ys v Ha Hb e0 es hs eab hD hi hf h hv xs => ?_) (fun Hs D i ys Ha e hi hf h => ?_)) (fun v Ha Hb ea eb h => ?_)
  · obtain ⟨r, m, _⟩ := at_ hx e
    exact hg _ _ _ _ m e (at_ hx (Ex.refl H)).1 r q
  · obtain ⟨r, m, _⟩ := at_ hx (Ex.refl H)
    exact (ht _ _ m r).mono e
  · obtain ⟨r, m, _⟩ := at_ hx (Ex.refl H)
    exact (he _ _ m r hf).mono e
  · exact ⟨H, fun b o k => ⟨e2 _ _ (e _ _ k), .inl k⟩, Evl.fresh_back e hD, .nil⟩
  · obtain ⟨Hn, m, d, p⟩ := h
    exact ⟨Hn, m.on e, d, p⟩
  · obtain ⟨Hn, m, d, p⟩ := h
    obtain ⟨Hv, mv, sv⟩ := hv
    have h0 : H D = none := Evl.fresh_back e0 hs
    have dv : Hv D = none := by
      cases c : Hv D with
      | none => rfl
      | some o =>
        rcases (mv D o c).2 with z | z
        · rw [h0] at z; cases z
        · rw [hD] at z; cases z
    have mv2 : Mk H Hs Hb Hv := mv.back es
    obtain ⟨mj, ja, jb⟩ := (m.on eab).join mv2
    have dj : join Hn Hv D = none := by
      unfold join
      rw [d]
      exact dv
    refine ⟨join Hn Hv, fun b o k => ?_, dj, ?_⟩
    · have n : b ≠ D := fun z => by rw [z, dj] at k; cases k
      rw [upd_ne n]
      exact mj b o k
    · have hi2 : i < L.length := by omega
      have hx : L[i]? = some (L.getD i default) := by rw [List.getD_eq_getElem?_getD, List.getElem?_eq_getElem hi2]; rfl
      rw [tk_more hx, List.filter_append, List.map_append]
      refine papp (mS.paired ja p) ?_
      have ef : (List.filter f [L.getD i default]).map F = [F (L.getD i default)] := by
        rw [List.filter_cons, if_pos hf]
        rfl
      rw [ef]
      exact .cons (mS _ _ _ _ jb sv) .nil
  · obtain ⟨Hn, m, d, p⟩ := h
    refine ⟨Hn, m, d, ?_⟩
    have hi2 : i < L.length := by omega
    have hx : L[i]? = some (L.getD i default) := by rw [List.getD_eq_getElem?_getD, List.getElem?_eq_getElem hi2]; rfl
    rw [tk_more hx, List.filter_append, List.map_append]
    have ef : (List.filter f [L.getD i default]).map F = [] := by
      rw [List.filter_cons, if_neg (by rw [hf]; decide)]
      rfl
    rw [ef, List.append_nil]
    exact p
  · obtain ⟨D, ys, rfl, fD, hD, _, Hn, m, d, p⟩ := h
    rw [hll, List.take_length] at p
    refine ⟨D, ys, upd Hn D (.lst ys), rfl, fD, fun b o k => ?_, upd_same, mS.paired (Ex.new d) p⟩
    by_cases n : b = D
    · subst n
      rw [upd_same] at k
      exact ⟨hD.trans k, .inr fD⟩
    · rw [upd_ne n] at k
      exact m b o k
/-- a tuple of known values -/
theorem evp_tupN {ta : TA} {xs : List V} (h : EvA ta σ H xs) (hl : xs.length ≤ 100000) : EvP (tTup ta) σ H (fun v H1 H2 => ∃ p Hn, v = .ref p ∧ Mk H H1 H2 Hn ∧ Hn p = some (.tup xs) ∧ Ex H Hn) := fun H1 e Q q =>
  Evl.eu_tup h hl H1 e Q fun p H2 fp e2 k => q _ H2 e2 ⟨p, upd H p (.tup xs), rfl, fun b o kb => by
    by_cases n : b = p
    · subst n
      rw [upd_same] at kb
      exact ⟨k.trans kb, .inr fp⟩
    · rw [upd_ne n] at kb
      exact ⟨e2 _ _ (e _ _ kb), .inl kb⟩, upd_same, Ex.new (Evl.fresh_back e fp)⟩
/-- all([..]) and any([..]) of bools that are known -/
theorem paired_len {α β : Type} {R : α → β → Prop} {xs : List α} {ys : List β} (h : Paired R xs ys) : xs.length = ys.length := PySem.Paired.length h
/-- [v a for a in L if f a], plain values -/
theorem lcW {α : Type} [Inhabited α] {R : Rep α} (mR : Mono R) {wi : TI} {g : TG} {tt : TT} {te : TE} {vs : List Nat} {ls : List V} {L : List α} (s : Src wi σ H ls.length (fun i v => ls[i]? = some v)) (hp : Paired (R H) ls L) (hn : L.length ≤ 50000) (st : α → V → L2.St) (hw : ∀ a x, wipe (st a x) vs = wipe σ vs)
    (hg : ∀ a x H1 Q, a ∈ L → Ex H H1 → R H x a → R H1 x a → Q (st a x) H1 → g x (wipe σ vs) H1 Q) (f : α → Bool)
    (ht : ∀ a x, a ∈ L → R H x a → EvT tt (st a x) H (f a)) (v : α → V)
    (he : ∀ a x, a ∈ L → R H x a → f a = true → Ev te (st a x) H (v a)) :
    EvP (tLc wi g tt te vs) σ H (NewL ((L.filter f).map v)) := by
  refine (lcG mR (S := fun _ x y => x = y) (fun _ _ _ _ _ h => h) s hp hn st hw hg f ht v (fun a x ha r hf => (evp_ev (he a x ha r hf)).imp fun z Ha Hb ec eb h => ⟨H, fun b o k => ⟨eb _ _ (ec _ _ k), .inl k⟩, h⟩)).imp fun z Ha Hb ea eb h => ?_
  · obtain ⟨p, ws, Hn, rfl, fp, m, hp, hh⟩ := h
    have go : ∀ {xs ys : List V}, Paired (fun x y : V => x = y) xs ys → xs = ys := by
      intro xs ys h
      induction h with
      | nil => rfl
      | cons r _ ih => rw [r, ih]
    have e := go hh
    subst e
    exact ⟨p, rfl, fp, (m p _ hp).1⟩
/-- what is walked stands in the base -/
def SrcB (wi : TI) (σ : L2.St) (H H1 : Hp) (n : Nat) (X : Nat → V → Prop) : Prop := ∀ R : It → Hp → Prop, (∀ J (G : Hp → Prop), (∀ H3, Ex H H3 → G H3) → Walk J n G (fun i H v H' => H' = H ∧ X i v) → R J H1) → wi σ H1 R
theorem srcB_list {i : Nat} {σ : L2.St} {H H1 : Hp} {p : Addr} {xs : List V} (h : σ[i]? = some (some (.ref p))) (hp : H p = some (.lst xs)) (e : Ex H H1) : SrcB (iList K (tVar i)) σ H H1 xs.length (fun i v => xs[i]? = some v) := fun R k =>
  ⟨_, h, p, rfl, ⟨xs, Evl.sq_of (e _ _ hp)⟩, k _ (fun H => SqL K H p xs) (fun H3 e3 => Evl.sq_of (e3 _ _ hp)) walk_list⟩
/-- [F a b for a in L for b in M a if f a b] -/
theorem lcG2 {α β γ : Type} [Inhabited α] [Inhabited β] {R : Rep α} {R' : Rep β} {S : Rep γ} (mR : Mono R) (mR' : Mono R') (mS : Mono S) {wi wi1 : TI} {g g1 : TG} {tt1 : TT} {te : TE} {vs vs1 : List Nat} {ls : List V} {L : List α} (M : α → List β) (s : Src wi σ H ls.length (fun i v => ls[i]? = some v)) (hp : Paired (R H) ls L) (k : Nat) (hn : L.length * k ≤ 50000) (hk : ∀ a ∈ L, (M a).length ≤ k)
    (st : α → V → L2.St) (hw : ∀ a x, wipe (st a x) vs = wipe σ vs) (hg : ∀ a x H1 Q, a ∈ L → Ex H H1 → R H1 x a → Q (st a x) H1 → g x (wipe σ vs) H1 Q)
    (s1 : ∀ a x H1, a ∈ L → Ex H H1 → R H1 x a → ∃ ms : List V, SrcB wi1 (st a x) H H1 ms.length (fun i v => ms[i]? = some v) ∧ Paired (R' H) ms (M a))
    (st1 : α → V → β → V → L2.St) (hw1 : ∀ a x b y, wipe (st1 a x b y) vs1 = wipe (st a x) vs1) (hg1 : ∀ a x b y H1 Q, a ∈ L → b ∈ M a → Ex H H1 → R' H1 y b → Q (st1 a x b y) H1 → g1 y (wipe (st a x) vs1) H1 Q)
    (f : α → β → Bool) (ht : ∀ a x b y, a ∈ L → b ∈ M a → R H x a → R' H y b → EvT tt1 (st1 a x b y) H (f a b)) (F : α → β → γ)
    (he : ∀ a x b y, a ∈ L → b ∈ M a → R H x a → R' H y b → f a b = true → EvP te (st1 a x b y) H (NewR S H (F a b))) :
    EvP (tLc2 wi g tYes wi1 g1 tt1 te vs vs1) σ H (NewLst S H (L.flatMap fun a => ((M a).filter (f a)).map (F a))) := fun H0 e0 Q q => by
  have hll : ls.length = L.length := PySem.Paired.length hp
  have at_ : ∀ {i : Nat} {x : V} {H1 : Hp}, ls[i]? = some x → Ex H H1 → R H1 x (L.getD i default) ∧ L.getD i default ∈ L ∧ L[i]? = some (L.getD i default) := fun {i x H1} hx e => by
    obtain ⟨q, hq, r⟩ := pix hp hx
    have : L.getD i default = q := by rw [List.getD_eq_getElem?_getD, hq]; rfl
    exact ⟨this ▸ mR _ _ _ _ e r, this ▸ List.mem_of_getElem? hq, this ▸ hq⟩
  refine s H0 e0 _ fun J H1 G e1 hG hW D hD => ?_
  have fD := Evl.fresh_back e1 hD
  have h0 : H D = none := Evl.fresh_back e0 fD
  let Part : List γ → Hp → Prop := fun cs H' => ∃ Hn ys, Ex H1 H' ∧ Mk H H0 H' Hn ∧ Hn D = none ∧ H' D = some (.lst ys) ∧ Paired (S Hn) ys cs
  have pE : ∀ {cs Ha Hb}, Ex Ha Hb → Part cs Ha → Part cs Hb := fun e ⟨Hn, ys, a, m, d, h, p⟩ => ⟨Hn, ys, a.trans e, m.on e, d, e _ _ h, p⟩
  have bound : ∀ (i : Nat), (((L.take i).flatMap fun a => ((M a).filter (f a)).map (F a))).length ≤ i * k := by
    intro i
    induction i with
    | zero => simp
    | succ i ih =>
      by_cases hi : i < L.length
      · have hx : L[i]? = some L[i] := List.getElem?_eq_getElem hi
        rw [tk_more hx, List.flatMap_append, List.length_append]
        have h2 : (List.flatMap (fun a => ((M a).filter (f a)).map (F a)) [L[i]]).length ≤ k := by
          rw [List.flatMap_cons, List.flatMap_nil, List.append_nil, List.length_map]
          exact Nat.le_trans (List.length_filter_le _ _) (hk _ (List.getElem_mem hi))
        rw [Nat.succ_mul]
        omega
      · have e2 : L.take (i + 1) = L.take i := by rw [List.take_of_length_le (by omega), List.take_of_length_le (by omega)]
        rw [e2, Nat.succ_mul]
        omega
  refine ⟨fun i m H' => m = ls.length - i ∧ i ≤ ls.length ∧ Part ((L.take i).flatMap fun a => ((M a).filter (f a)).map (F a)) H', ⟨ls.length, by simp, Nat.zero_le _, H, [], Ex.new hD, fun b o z => ⟨Ex.new hD _ _ (e1 _ _ (e0 _ _ z)), .inl z⟩, h0, upd_same, .nil⟩, ?_⟩
  rintro i m Ha ⟨rfl, hin, hP⟩
  have hx1 : Ex H1 Ha := by
    obtain ⟨_, _, a, _⟩ := hP
    exact a
  by_cases hi : i < ls.length
  · refine .inr ⟨hW.goes i Ha hi (hG _ hx1), fun H' => Part ((L.take (i + 1)).flatMap fun a => ((M a).filter (f a)).map (F a)) H', fun H' p' => ⟨ls.length - (i + 1), by omega, rfl, hi, p'⟩, fun x Hb y => ?_⟩
    obtain ⟨rfl, hX⟩ := hW.yields i Ha x Hb hi (hG _ hx1) y
    have eA : Ex H Hb := (e0.trans e1).trans hx1
    obtain ⟨r, mem, hat⟩ := at_ hX eA
    have r0 := (at_ hX (Ex.refl H)).1
    generalize L.getD i default = a at r r0 mem hat
    refine hg a x Hb _ mem eA r ⟨hw _ _, ?_⟩
    have step : (L.take (i + 1)).flatMap (fun a => ((M a).filter (f a)).map (F a)) = ((L.take i).flatMap fun a => ((M a).filter (f a)).map (F a)) ++ ((M a).filter (f a)).map (F a) := by
      rw [tk_more hat, List.flatMap_append, List.flatMap_cons, List.flatMap_nil, List.append_nil]
    rw [step]
    have bd := bound i
    have bk := hk a mem
    have hik : i * k + k ≤ 50000 := by
      have : (i + 1) * k ≤ L.length * k := Nat.mul_le_mul_right k (by omega)
      rw [Nat.succ_mul] at this
      omega
    generalize (L.take i).flatMap (fun a => ((M a).filter (f a)).map (F a)) = C at hP step bd ⊢
    obtain ⟨ms, sr, hpm⟩ := s1 a x Hb mem eA r
    have hml : ms.length = (M a).length := PySem.Paired.length hpm
    refine yes_go ?_
    dsimp only
    rw [if_pos rfl]
    refine sr _ fun J1 G1 hG1 hW1 => ?_
    have aH : ∀ {cs H'}, Part cs H' → Ex H H' := fun ⟨_, _, z, _⟩ => (e0.trans e1).trans z
    refine ⟨fun j l H' => l = ms.length - j ∧ j ≤ ms.length ∧ Part (C ++ (((M a).take j).filter (f a)).map (F a)) H', ⟨ms.length, by simp, Nat.zero_le _, by simpa using hP⟩, ?_⟩
    rintro j l Hd ⟨rfl, hjn, hQ⟩
    by_cases hj : j < ms.length
    · refine .inr ⟨hW1.goes j Hd hj (hG1 _ (aH hQ)), fun H' => Part (C ++ (((M a).take (j + 1)).filter (f a)).map (F a)) H', fun H' p' => ⟨ms.length - (j + 1), by omega, rfl, hj, p'⟩, fun y He z => ?_⟩
      obtain ⟨rfl, hY⟩ := hW1.yields j Hd y He hj (hG1 _ (aH hQ)) z
      obtain ⟨b, hb, rb⟩ := pix hpm hY
      have eB := aH hQ
      have memb := List.mem_of_getElem? hb
      have rb' := mR' _ _ _ _ eB rb
      have r' : R He x a := mR _ _ _ _ eB r0
      refine hg1 a x b y He _ mem memb eB rb' ⟨hw1 _ _ _ _, ?_⟩
      refine ht a x b y mem memb r0 rb He eB _ fun Hf ef => ?_
      have eBf := eB.trans ef
      have step1 : ((M a).take (j + 1)).filter (f a) = ((M a).take j).filter (f a) ++ [b].filter (f a) := by rw [tk_more hb, List.filter_append]
      rw [step1]
      cases hf : f a b with
      | true =>
        refine iteT ?_
        refine he a x b y mem memb r0 rb hf Hf eBf _ fun v Hg eg hv => ?_
        obtain ⟨Hn, ys, a1, mm, d, h, p⟩ := pE ef hQ
        obtain ⟨Hv, mv, sv⟩ := hv
        have fl : Hf D ≠ none := by rw [h]; exact fun z => nomatch z
        have dv : Hv D = none := by
          cases c : Hv D with
          | none => rfl
          | some o =>
            rcases (mv D o c).2 with z | z
            · rw [h0] at z; cases z
            · exact absurd z fl
        have mv2 : Mk H H0 Hg Hv := mv.back (e1.trans a1)
        obtain ⟨mj, ja, jb⟩ := (mm.on eg).join mv2
        have dj : join Hn Hv D = none := by
          unfold join
          rw [d]
          exact dv
        have hlen : ys.length ≤ i * k + k := by
          rw [PySem.Paired.length p, List.length_append, List.length_map]
          have h1 := List.length_filter_le (f a) ((M a).take j)
          have h2 : ((M a).take j).length ≤ (M a).length := by rw [List.length_take]; omega
          omega
        refine ⟨ys, eg _ _ h, Nat.lt_of_le_of_lt hlen (Nat.lt_of_le_of_lt hik (by decide)), join Hn Hv, ys ++ [v], Ex.mut (a1.trans eg) hD, fun c o z => ?_, dj, upd_same, ?_⟩
        · have n : c ≠ D := fun w => by rw [w, dj] at z; cases z
          rw [upd_ne n]
          exact mj c o z
        · rw [List.map_append, ← List.append_assoc]
          refine papp (mS.paired ja p) ?_
          have ef : (List.filter (f a) [b]).map (F a) = [F a b] := by
            rw [List.filter_cons, if_pos hf]
            rfl
          rw [ef]
          exact .cons (mS _ _ _ _ jb sv) .nil
      | false =>
        refine iteF ?_
        have e3 : ([b].filter (f a)) = [] := by rw [List.filter_cons, if_neg (by rw [hf]; decide)]; rfl
        rw [e3, List.append_nil]
        exact pE ef hQ
    · have e : j = ms.length := by omega
      subst e
      rw [hml, List.take_length] at hQ
      exact .inl ⟨hW1.stops Hd (hG1 _ (aH hQ)), hQ⟩
  · have e : i = ls.length := by omega
    subst e
    obtain ⟨Hn, ys, a, mm, d, h, p⟩ := hP
    rw [hll, List.take_length] at p
    refine .inl ⟨hW.stops Ha (hG _ hx1), q (.ref D) Ha (e1.trans a) ⟨D, ys, upd Hn D (.lst ys), rfl, fD, fun b o z => ?_, upd_same, mS.paired (Ex.new d) p⟩⟩
    by_cases n : b = D
    · subst n
      rw [upd_same] at z
      exact ⟨h.trans z, .inr fD⟩
    · rw [upd_ne n] at z
      exact mm b o z
end
end Nw
set_option Elab.async false
set_option linter.all false
set_option maxRecDepth 100000
set_option maxHeartbeats 4000000
/-! the state of a country that is being drawn -/
namespace Pr
open PySem PySem.Spec PyProof.Rows L2 TM
open Evl (Ex)
structure St1 (H0 H : Hp) (p tt ll : Addr) (rs : List Addr) (lsv : List V) (L : Lanes) (ln : Nat → Nat) : Prop where
  pot : PotAt H p
  ex : ExB p H0 H
  ht : H tt = some (.lst (rs.map V.ref))
  hl : H ll = some (.lst lsv)
  pr : Paired (PairAt H) lsv L
  row : ∀ (j : Nat) (r : Addr), rs[j]? = some r → ∃ xs, H r = some (.lst xs) ∧ xs.length = ln j
  nd : rs.Nodup
  ft : H0 tt = none
  fl : H0 ll = none
  fr : ∀ r ∈ rs, H0 r = none
  ntp : tt ≠ p
  nlp : ll ≠ p
  ntl : tt ≠ ll
  nr : ∀ r ∈ rs, r ≠ p ∧ r ≠ tt ∧ r ≠ ll
section
variable {H0 H H' : Hp} {p tt ll : Addr} {rs : List Addr} {lsv : List V} {L : Lanes} {ln : Nat → Nat}
theorem PairAt.exB {v : V} {q : Nat × Nat} (hp : PotAt H p) (e : ExB p H H') (h : PairAt H v q) : PairAt H' v q := by
  obtain ⟨t, r, k⟩ := h
  exact ⟨t, r, e _ _ k (hp.ne k (fun _ _ z => nomatch z))⟩
theorem St1.byPot (S : St1 H0 H p tt ll rs lsv L ln) (e : ExB p H H') (hp : PotAt H' p) : St1 H0 H' p tt ll rs lsv L ln where
  pot := hp
  ex := S.ex.trans e
  ht := e _ _ S.ht S.ntp
  hl := e _ _ S.hl S.nlp
  pr := paired_imp (fun _ _ z => z.exB S.pot e) S.pr
  row := fun j r h => by
    obtain ⟨xs, a, b⟩ := S.row j r h
    exact ⟨xs, e _ _ a (S.nr r (List.mem_of_getElem? h)).1, b⟩
  nd := S.nd
  ft := S.ft
  fl := S.fl
  fr := S.fr
  ntp := S.ntp
  nlp := S.nlp
  ntl := S.ntl
  nr := S.nr
theorem St1.byEx (S : St1 H0 H p tt ll rs lsv L ln) (e : Ex H H') : St1 H0 H' p tt ll rs lsv L ln := S.byPot (.of e) (S.pot.ex e)
theorem St1.free (S : St1 H0 H p tt ll rs lsv L ln) {q : Addr} (h : H q = none) : H0 q = none ∧ q ≠ p := by
  have n : q ≠ p := fun e => by
    obtain ⟨a, b, hp, _⟩ := S.pot
    rw [e, hp] at h
    cases h
  exact ⟨S.ex.free h n, n⟩
/-- an object that H0 does not know is stored anew -/
theorem ExB.mut {q : Addr} {o : HO} (e : ExB p H0 H) (h : H0 q = none) : ExB p H0 (upd H q o) := fun b u hb n => by
  rw [upd_ne (ne_of_none hb h)]
  exact e b u hb n
theorem PotAt.put {q : Addr} {o : HO} (h : PotAt H p) (n : q ≠ p) : PotAt (upd H q o) p := by
  obtain ⟨a, b, h, r⟩ := h
  exact ⟨a, b, by rw [upd_ne n.symm]; exact h, r⟩
theorem PairAt.put {v : V} {q : Nat × Nat} {x : Addr} {xs ys : List V} (hx : H x = some (.lst xs)) (h : PairAt H v q) : PairAt (upd H x (.lst ys)) v q := by
  obtain ⟨t, r, k⟩ := h
  exact ⟨t, r, by rw [upd_ne (ne_of k hx (fun z => nomatch z))]; exact k⟩
/-- one row more -/
theorem St1.push (S : St1 H0 H p tt ll rs lsv L ln) {r : Addr} {xs : List V} (hr : H r = none) : St1 H0 (upd (upd H r (.lst xs)) tt (.lst (rs.map V.ref ++ [.ref r]))) p tt ll (rs ++ [r]) lsv L (fun j => if j = rs.length then xs.length else ln j) := by
  obtain ⟨h0, np⟩ := S.free hr
  have nt : r ≠ tt := fun e => by rw [e, S.ht] at hr; cases hr
  have nl : r ≠ ll := fun e => by rw [e, S.hl] at hr; cases hr
  have S1 := S.byEx (H' := upd H r (.lst xs)) (Ex.new hr)
  have nrs : r ∉ rs := fun m => by
    obtain ⟨j, hj⟩ := List.getElem?_of_mem m
    obtain ⟨ys, h, _⟩ := S.row j r hj
    rw [hr] at h
    cases h
  refine ⟨S1.pot.put S.ntp, S1.ex.mut S.ft, by rw [upd_same, List.map_append]; rfl, by rw [upd_ne S.ntl.symm]; exact S1.hl, paired_imp (fun _ _ z => z.put S1.ht) S1.pr, fun j q h => ?_, ?_, S.ft, S.fl, fun q hq => ?_, S.ntp, S.nlp, S.ntl, fun q hq => ?_⟩
  · by_cases hj : j < rs.length
    · rw [List.getElem?_append_left hj] at h
      obtain ⟨ys, a, b⟩ := S1.row j q h
      refine ⟨ys, by rw [upd_ne (S.nr q (List.mem_of_getElem? h)).2.1]; exact a, ?_⟩
      rw [if_neg (by omega)]
      exact b
    · rw [List.getElem?_append_right (by omega)] at h
      have e0 : j - rs.length = 0 := by
        have := (List.getElem?_eq_some_iff.mp h).1
        simp at this
        omega
      rw [e0] at h
      have : r = q := Option.some.inj h
      subst this
      exact ⟨xs, by rw [upd_ne nt, upd_same], by rw [if_pos (by omega)]⟩
  · exact List.nodup_append.mpr ⟨S.nd, by simp, fun x hx y hy e => by
      have : y = r := by simpa using hy
      subst this
      subst e
      exact nrs hx⟩
  · rcases List.mem_append.mp hq with hq | hq
    · exact S.fr q hq
    · have : q = r := by simpa using hq
      subst this
      exact h0
  · rcases List.mem_append.mp hq with hq | hq
    · exact S.nr q hq
    · have : q = r := by simpa using hq
      subst this
      exact ⟨np, nt, nl⟩
/-- a row grows -/
theorem St1.grow (S : St1 H0 H p tt ll rs lsv L ln) {o : Nat} {r : Addr} {xs : List V} {v : V} (h : rs[o]? = some r) (hx : H r = some (.lst xs)) : St1 H0 (upd H r (.lst (xs ++ [v]))) p tt ll rs lsv L (fun j => ln j + if o = j then 1 else 0) := by
  obtain ⟨np, nt, nl⟩ := S.nr r (List.mem_of_getElem? h)
  refine ⟨S.pot.put np, S.ex.mut (S.fr r (List.mem_of_getElem? h)), by rw [upd_ne nt.symm]; exact S.ht, by rw [upd_ne nl.symm]; exact S.hl, paired_imp (fun _ _ z => z.put hx) S.pr, fun j q hq => ?_, S.nd, S.ft, S.fl, S.fr, S.ntp, S.nlp, S.ntl, S.nr⟩
  obtain ⟨ys, a, b⟩ := S.row j q hq
  by_cases e : o = j
  · subst e
    have : r = q := Option.some.inj (h.symm.trans hq)
    subst this
    rw [hx] at a
    cases a
    exact ⟨xs ++ [v], upd_same, by rw [if_pos rfl, List.length_append, b]; rfl⟩
  · have : q ≠ r := fun z => e (TM.nodup_ix S.nd h (z ▸ hq))
    exact ⟨ys, by rw [upd_ne this]; exact a, by rw [if_neg e, b]; rfl⟩
/-- one lane more -/
theorem St1.lane (S : St1 H0 H p tt ll rs lsv L ln) {t : Addr} {a b : Nat} (ht : H t = none) : St1 H0 (upd (upd H t (.tup [vI a, vI b])) ll (.lst (lsv ++ [.ref t]))) p tt ll rs (lsv ++ [.ref t]) (L ++ [(a, b)]) ln := by
  have S1 := S.byEx (H' := upd H t (.tup [vI a, vI b])) (Ex.new ht)
  have ntl : t ≠ ll := fun e => by rw [e, S.hl] at ht; cases ht
  refine ⟨S1.pot.put S.nlp, S1.ex.mut S.fl, by rw [upd_ne S.ntl]; exact S1.ht, upd_same, Paired.snoc (paired_imp (fun _ _ z => z.put S1.hl) S1.pr) ⟨t, rfl, by rw [upd_ne ntl, upd_same]⟩, fun j q hq => ?_, S.nd, S.ft, S.fl, S.fr, S.ntp, S.nlp, S.ntl, S.nr⟩
  obtain ⟨ys, a, b⟩ := S1.row j q hq
  exact ⟨ys, by rw [upd_ne (S.nr q (List.mem_of_getElem? hq)).2.2]; exact a, b⟩
theorem St1.lens (S : St1 H0 H p tt ll rs lsv L ln) {ln' : Nat → Nat} (e : ∀ j, j < rs.length → ln j = ln' j) : St1 H0 H p tt ll rs lsv L ln' :=
  have row' : ∀ (j : Nat) (r : Addr), rs[j]? = some r → ∃ xs, H r = some (.lst xs) ∧ xs.length = ln' j := fun j r h => by
    obtain ⟨xs, a, b⟩ := S.row j r h
    exact ⟨xs, a, by rw [b]; exact e j (List.getElem?_eq_some_iff.mp h).1⟩
  { S with row := row' }
/-- what stays of it: the lanes -/
structure St2 (H0 H : Hp) (p ll lf pl : Addr) (lsv : List V) (L : Lanes) (l q : List Nat) : Prop where
  pot : PotAt H p
  ex : ExB p H0 H
  hl : H ll = some (.lst lsv)
  pr : Paired (PairAt H) lsv L
  hf : H lf = some (.lst (vIs l))
  hp : H pl = some (.lst (vIs q))
  fl : H0 ll = none
  ff : H0 lf = none
  fp : H0 pl = none
  nlp : ll ≠ p
  nfp : lf ≠ p
  npp : pl ≠ p
  nlf : ll ≠ lf
  nlq : ll ≠ pl
  nfq : lf ≠ pl
theorem St2.byPot {lf pl : Addr} {l q : List Nat} (S : St2 H0 H p ll lf pl lsv L l q) (e : ExB p H H') (hp : PotAt H' p) : St2 H0 H' p ll lf pl lsv L l q :=
  { S with pot := hp, ex := S.ex.trans e, hl := e _ _ S.hl S.nlp, pr := paired_imp (fun _ _ z => z.exB S.pot e) S.pr, hf := e _ _ S.hf S.nfp, hp := e _ _ S.hp S.npp }
theorem St2.byEx {lf pl : Addr} {l q : List Nat} (S : St2 H0 H p ll lf pl lsv L l q) (e : Ex H H') : St2 H0 H' p ll lf pl lsv L l q := S.byPot (.of e) (S.pot.ex e)
theorem St2.pop {lf pl : Addr} {l l' q : List Nat} (S : St2 H0 H p ll lf pl lsv L l q) : St2 H0 (upd H lf (.lst (vIs l'))) p ll lf pl lsv L l' q :=
  { S with pot := S.pot.put S.nfp, ex := S.ex.mut S.ff, hl := by rw [upd_ne S.nlf]; exact S.hl, pr := paired_imp (fun _ _ z => z.put S.hf) S.pr, hf := upd_same, hp := by rw [upd_ne S.nfq.symm]; exact S.hp }
theorem St2.put {lf pl : Addr} {l q q' : List Nat} (S : St2 H0 H p ll lf pl lsv L l q) : St2 H0 (upd H pl (.lst (vIs q'))) p ll lf pl lsv L l q' :=
  { S with pot := S.pot.put S.npp, ex := S.ex.mut S.fp, hl := by rw [upd_ne S.nlq]; exact S.hl, pr := paired_imp (fun _ _ z => z.put S.hp) S.pr, hp := upd_same, hf := by rw [upd_ne S.nfq]; exact S.hf }
end
def spDrawn : Sp := fun vs H Q _ => ∃ p m, vs = [.ref p, vI m] ∧ PotAt H p ∧ 1 ≤ m ∧ m ≤ 7 ∧ ∀ a L vt H', Good vt L → LanesAt H' a L → H a = none → ExB p H H' → PotAt H' p → Q (.ref a) H'
end Pr
set_option Elab.async false
set_option linter.all false
set_option maxRecDepth 100000
set_option maxHeartbeats 4000000
/-! defs that ask for a written form: run where no written form is under way; calls by keywords alone -/
namespace G8
open PySem PySem.Spec PyProof.Rows L2
structure FnOkG (P : Program) (w : World) (K : PySem.W.Frag) (mg : Str → Option Value) (base : Heap) (CX : CXT) (k : Nat) (f : Addr) (fd : FuncData) (ps : List Str) (sp : Sp) : Prop where
  len : ∀ vs H Q E, sp vs H Q E → vs.length = ps.length
  run : ∀ (A : Around) (outer : List Env) (s : Shared) (H : Hp) (args : Args) (us : List Value) (vs : List V) (Q : VK) (E : XK), Room k A → A.guards = some [] → Env0 P w K mg base A outer s H → BindsTo s fd args (ps.zip us) → Vals vs us → sp vs H Q E →
    codeAny (model P w) A (.call (.ref f) args) (CR CX outer P w H s Q E) s
section
variable {X : Cx} {CX : CXT} {k : Nat} {f : Addr} {fd : FuncData} {ps : List Str} {sp : Sp} {E : XK} {ds : List Value} {dvs : List V}
theorem run_fnG {pins : List (Addr × Obj)} {σ : L2.St} {H : Hp} {s : Shared} {Q : VK} {us : List Value} {vs : List V} (F : FnOkG X.prog X.w X.K X.mg X.base CX k f fd ps sp) (hr : Room k X.A) (hG : X.A.guards = some []) (hb : L2.Binds X.K fd ps ds) (hd : Vals dvs ds) (hx : Passes CX X E)
    (I : Inv X pins σ H s) (r : Vals vs us) (h : sp (vs ++ dvs) H Q E) : wpAny (model X.prog X.w) X.A (call (.ref f) us) (EP X pins σ Q) X.xe s := by
  have r2 : Vals (vs ++ dvs) (us ++ ds) := r.append hd
  have hl : (us ++ ds).length = ps.length := by rw [← r2.length]; exact F.len _ _ _ _ h
  refine wpAny_call (codeAny_mono (F.run X.A X.stack s H ⟨us, []⟩ (us ++ ds) (vs ++ dvs) Q E hr hG I.env0 (hb s us I.kIn hl) r2 h) fun r s' hq => ?_)
  cases r with
  | error e => exact hx pins σ H s e s' I hq
  | ok fl =>
    cases fl with
    | ret u => exact I.after hq
    | next => exact False.elim hq
    | brk => exact False.elim hq
    | cont => exact False.elim hq
theorem pe_callG {x : Str} {p pos : Pos} {e : Expr} {es : List Expr} {t : TA} (F : FnOkG X.prog X.w X.K X.mg X.base CX k f fd ps sp) (hr : Room k X.A) (hG : X.A.guards = some []) (hg : Gl X x) (hm : X.mg x = some (.ref f)) (hk : PySem.W.keepIn X.K (.ref f) = true) (hb : L2.Binds X.K fd ps ds) (hd : Vals dvs ds) (hx : Passes CX X E)
    (ha : PA X (e :: es) t) (hdb : (x == ("__debug__" : Str)) = false := by decide) (he : starEach (e :: es) X.env = (false, eval e X.env) :: starEach es X.env := by rfl) (hpl : (backTo pos (starEach es X.env)).any (·.1) = false := by rfl) :
    PE X (.Call (.Name x p) (e :: es) [] pos) (tCall sp dvs E t) := by
  refine ⟨fun pins s σ H Q I h => ?_⟩
  refine wpAny_Call_Name_kw (ld_glob I hg hm ?_ hdb)
  refine PySem.W.callWith_K (h₀ := X.base) I.ok.mod.kin hk (thn (ha.run pos pins s σ H _ I h) fun us s1 ⟨vs, H1, I1, r, q⟩ => ⟨I1.kIn, ?_⟩) he hpl
  exact run_fnG F hr hG hb hd hx I1 r q
/-- f(a = .., b = ..): no argument by place -/
theorem pe_callK0 {x : Str} {p pos : Pos} {kws : List Keyword} {ks : List Str} {tk : TA} {g : List Value → List Value → List Value} {gV : List V → List V → List V} (F : FnOk X.prog X.w X.K X.mg X.base CX k f fd ps sp) (hr : Room k X.A) (hg : Gl X x) (hm : X.mg x = some (.ref f)) (hk : PySem.W.keepIn X.K (.ref f) = true) (hb : KBinds X.K fd ps ks g gV) (hx : Passes CX X E)
    (hkw : PK X kws tk) (hall : (backToKw pos (keywordEach kws X.env)).all (·.1.isSome) = true := by rfl) (hks : (backToKw pos (keywordEach kws X.env)).filterMap (·.1) = ks := by rfl)
    (hdb : (x == ("__debug__" : Str)) = false := by decide)
    (hpl : ((backTo pos (starEach [] X.env)).any (·.1) || (backToKw pos (keywordEach kws X.env)).any (·.1.isNone)) = false := by rfl) :
    PE X (.Call (.Name x p) [] kws pos) (tCallK sp gV E tNil tk) := by
  refine ⟨fun pins s σ H Q I h => ?_⟩
  refine wpAny_Call_Name_kw (ld_glob I hg hm ?_ hdb)
  refine PySem.W.callWith_KW0 (h₀ := X.base) I.ok.mod.kin hk hall ?_ hpl
  refine thn (hkw.run pos pins s σ H _ I h) fun ws s2 ⟨zs, H2, I2, rz, q2⟩ => ⟨I2.kIn, ?_⟩
  rw [hks]
  exact run_fnk F hr hb hx I2 .nil rz q2
/-! ### a written form -/
def rRepr (K : PySem.W.Frag) : List V → Hp → VK → Prop := fun xs H Q => ∃ a d, xs = [.ref a] ∧ Dp K H (.ref a) d ∧ d.showable = true ∧ d.hasDict = false ∧ d.depth ≤ 60 ∧ d.shown.length ≤ sizeLine ∧ Q (.str d.shown) H
theorem cr_repr (hG : X.A.guards = some []) (hu : X.A.units + 64 < cLine) : CallR X (.builtin "repr") (rRepr X.K) := by
  intro pins s σ H xs us Q I r h
  obtain ⟨a, d, rfl, hD, hs, hh, hd, hz, q⟩ := h
  obtain ⟨u, rfl, ru⟩ := vals1 r
  obtain rfl : u = Value.ref a := ru
  obtain ⟨as, R⟩ := hD.reads I _ _ (Value.ref a) rfl
  refine repr_of_reads' R hs (PyData.noDict_hsm hh) hG (by omega) (fun _ _ e => e) (fun h' u tk hk => ?_) hz
  exact ⟨.str d.shown, H, I.kept hk, ⟨u, rfl⟩, q⟩
end
section
variable {P : Program} {w : World} {K : PySem.W.Frag} {mg : Str → Option Value} {base : Heap}
theorem okG {x qual : Str} {st : Stmt} {f : Addr} {fd : FuncData} {N ps : List Str} {k : Nat} {sp : Sp} (F : Fun K x qual st f fd) (S : FnScope N ps (defScope st)) (len : ∀ vs H Q E, sp vs H Q E → vs.length = ps.length)
    (hbody : ∀ (cdv : Value) (A : Around) (outer : List Env) (s : Shared) (H : Hp) (vs : List V) (Q : VK) (E : XK), Room k (A.deeper (envOfC qual (defScope st) s.heap.objs.size f cdv)) → (A.deeper (envOfC qual (defScope st) s.heap.objs.size f cdv)).guards = some [] → sp vs H Q E →
      ∃ t, PSs (cxOf CX0 P w K mg base N qual (defScope st) f cdv A outer s H E).nox (defBody st) t ∧ t { nx := fun _ H' => Q .non H', rt := Q } (start N vs) H) : FnOkG P w K mg base CX0 (k + 1) f fd ps sp := by
  obtain ⟨oc, od, kV, doc, pm, an, cdv, ct, osl, rfl, lk, hcd⟩ := F.ex
  refine ⟨len, fun A outer s H args us vs Q E hr hG e0 hb r hsp => ?_⟩
  -- what fn_of does, at A alone
  have hl := len _ _ _ _ hsp
  have KX : K.In s.heap := e0.mod.kin.keeps fun b o e => (e0.bs b o e).1
  have lim : s.heap.NoLimit := e0.mod.nolimit.keeps fun b o e => (e0.bs b o e).1
  have hkind : ∀ y ∈ ps.zip us, (defScope st).names.lookup y.1 = some .local ∨ ((defScope st).names.lookup y.1 = some .cell ∧ ((cellsFrom (s.heap.objs.size + 1) (defScope st).names []).lookup y.1).isSome = true) := fun ⟨n, v⟩ hy => by
    rcases S.par n (List.of_mem_zip hy).1 with q | q
    · exact .inl q
    · exact .inr ⟨q, PySem.W.cellsFrom_some _ _ _ (.inl q)⟩
  refine codeAny_call_function hr.depth (KX _ _ lk) rfl S.co S.gen rfl (PySem.W.codeRec_of KX hcd) (hb _ _ _ _ ?_)
  refine wpAny_newFunctionEnv_cells S.kind hkind fun env he s1 x => ?_
  subst he
  refine ⟨lim.keeps x.toInCall.keep, codeAny_func ?_⟩
  obtain ⟨t, ht, hq⟩ := hbody cdv A outer s H vs Q E (hr.deeper _) hG hsp
  have I : Inv (cxOf CX0 P w K mg base N qual (defScope st) f cdv A outer s H E) [] (start N vs) H s1 := inv_start S hr.hd e0 hl r x
  refine wpAny_mono (ht.nox.run [] s1 (start N vs) H _ I hq) (fun fl s' hs => ?_) fun e s' hs => hs
  have fin : ∀ {σ' : L2.St} {H' : Hp} {v : V} {u : Value}, Inv (cxOf CX0 P w K mg base N qual (defScope st) f cdv A outer s H E) [] σ' H' s' → RelV v u → Q v H' → CE outer P w H s Q u s' :=
    fun {σ' H' v u} J rv q => ⟨v, H', J.os, J.bare, J.base, J.hok, rv, q⟩
  cases fl with
  | ret u =>
    obtain ⟨v, σ', H', J, rv, q⟩ := hs
    exact fin J rv q
  | next =>
    obtain ⟨σ', H', J, q⟩ := hs
    exact fin (v := V.non) (u := Value.none) J rfl q
  | brk =>
    obtain ⟨_, _, _, q⟩ := hs
    exact False.elim q
  | cont =>
    obtain ⟨_, _, _, q⟩ := hs
    exact False.elim q
end
end G8
set_option Elab.async false
set_option linter.all false
set_option maxRecDepth 100000
set_option maxHeartbeats 4000000
/-! lists of places as data: compared, written -/
namespace Pr
open PySem PySem.Spec PyProof.Rows L2 TM
open Evl (Ex Ev EvT)
def dNs (l : List Nat) : List PyData := l.map fun (n : Nat) => .int (n : Int)
def dN (l : List Nat) : PyData := .list (dNs l)
theorem dp_all {K : PySem.W.Frag} {H : Hp} : ∀ l : List Nat, DpAll K H (vIs l) (dNs l)
  | [] => .nil
  | a :: l => .cons (.int a) (dp_all l)
theorem dp_N {K : PySem.W.Frag} {H : Hp} {a : Addr} {l : List Nat} (h : SqL K H a (vIs l)) : Dp K H (.ref a) (dN l) := .lst h (dp_all l)
theorem depth_Ns : ∀ l : List Nat, PyData.depthAll (dNs l) = 0
  | [] => by simp [dNs, PyData.depthAll]
  | a :: l => by
    have ih := depth_Ns l
    unfold dNs at ih ⊢
    simp [PyData.depthAll, PyData.depth, ih]
theorem depth_N (l : List Nat) : (dN l).depth = 1 := by
  unfold dN
  simp [PyData.depth, depth_Ns]
theorem canLay_Ns : ∀ l : List Nat, PyData.canLayAll0 (dNs l) = true
  | [] => by simp [dNs, PyData.canLayAll0]
  | a :: l => by
    have ih := canLay_Ns l
    unfold dNs at ih ⊢
    simp [PyData.canLayAll0, PyData.canLay0, ih]
theorem shaped_N (l : List Nat) : SeqAt.shaped (dN l) = true := by
  unfold SeqAt.shaped
  rw [depth_N]
  unfold dN
  simp [PyData.canLay0, canLay_Ns]
theorem eqv_Ns : ∀ l m : List Nat, PyData.eqvAll (dNs l) (dNs m) = decide (l = m)
  | [], [] => by simp [dNs, PyData.eqvAll]
  | [], b :: m => by simp [dNs, PyData.eqvAll]
  | a :: l, [] => by simp [dNs, PyData.eqvAll]
  | a :: l, b :: m => by
    have ih := eqv_Ns l m
    unfold dNs at ih ⊢
    simp only [List.map_cons, PyData.eqvAll, PyData.eqv, ih]
    by_cases h : a = b
    · subst h
      simp
    · have : ((a : Int) == (b : Int)) = false := by
        rw [beq_eq_false_iff_ne]
        omega
      simp [this, h]
theorem eqv_N (l m : List Nat) : PyData.eqv (dN l) (dN m) = decide (l = m) := by
  unfold dN
  simp only [PyData.eqv]
  exact eqv_Ns l m
theorem showable_Ns : ∀ l : List Nat, (∀ x ∈ l, x < 1024) → PyData.showableAll (dNs l) = true
  | [], _ => by simp [dNs, PyData.showableAll]
  | a :: l, h => by
    have ih := showable_Ns l fun x hx => h x (List.mem_cons_of_mem _ hx)
    have ha := h a List.mem_cons_self
    unfold dNs at ih ⊢
    have : (a : Int).natAbs.log2 < 1920 := by
      have h1 : (a : Int).natAbs = a := Int.natAbs_natCast a
      rw [h1]
      by_cases z : a = 0
      · subst z; decide
      · have := (Nat.log2_lt z (k := 10)).mpr (by omega)
        omega
    simp only [List.map_cons, PyData.showableAll, PyData.showable, ih, this, decide_true, Bool.and_self]
theorem hasDict_Ns : ∀ l : List Nat, PyData.hasDictAll (dNs l) = false
  | [] => by simp [dNs, PyData.hasDictAll]
  | a :: l => by
    have ih := hasDict_Ns l
    unfold dNs at ih ⊢
    simp [PyData.hasDictAll, PyData.hasDict, ih]
theorem weight_Ns : ∀ l : List Nat, (∀ x ∈ l, x < 1024) → PyData.weightAll (dNs l) ≤ 11 * l.length
  | [], _ => by simp [dNs, PyData.weightAll]
  | a :: l, h => by
    have ih := weight_Ns l fun x hx => h x (List.mem_cons_of_mem _ hx)
    have ha := h a List.mem_cons_self
    unfold dNs at ih ⊢
    simp only [List.map_cons, PyData.weightAll, PyData.weight, List.length_cons]
    have : (if ((a : Int) == 0) = true then 0 else (a : Int).natAbs.log2 + 1) ≤ 10 := by
      split
      · omega
      · rename_i z
        have z' : a ≠ 0 := fun e => z (by rw [e]; rfl)
        rw [Int.natAbs_natCast]
        have := (Nat.log2_lt z' (k := 10)).mpr (by omega)
        omega
    omega
def smallShow : ∀ n : Nat, n < 1024 → (PyData.shown (.int (n : Int))).length ≤ 8 := by decide +kernel
theorem leaves_Ns : ∀ l : List Nat, (∀ x ∈ l, x < 1024) → PyData.leavesShortAll 8 (dNs l) = true
  | [], _ => by simp [dNs, PyData.leavesShortAll]
  | a :: l, h => by
    have ih := leaves_Ns l fun x hx => h x (List.mem_cons_of_mem _ hx)
    have ha := smallShow a (h a List.mem_cons_self)
    unfold dNs at ih ⊢
    simp only [List.map_cons, PyData.leavesShortAll, PyData.leavesShort, ih, ha, decide_true, Bool.and_self]
/-- a list of small places is written -/
theorem repr_N {K : PySem.W.Frag} {H : Hp} {a : Addr} {l : List Nat} {Q : VK} (h : SqL K H a (vIs l)) (hs : ∀ x ∈ l, x < 1024) (hl : l.length ≤ 1001) (q : Q (.str (dN l).shown) H) : G8.rRepr K [.ref a] H Q := by
  refine ⟨a, dN l, rfl, dp_N h, ?_, ?_, by rw [depth_N]; decide, ?_, q⟩
  · unfold dN
    simp only [PyData.showable]
    exact showable_Ns l hs
  · unfold dN
    simp only [PyData.hasDict]
    exact hasDict_Ns l
  · refine PyData.shown_fits (B := 8) (by decide) (by decide) ?_ ?_
    · unfold dN
      simp only [PyData.leavesShort]
      exact leaves_Ns l hs
    · have := weight_Ns l hs
      unfold dN
      simp only [PyData.weight]
      omega
open Ep in
/-- new pairs, one a lane -/
theorem lcT {wi : TI} {g : TG} {te : TE} {vs : List Nat} {σ : L2.St} {H : Hp} {ls : List V} {L : Lanes} (s : Src wi σ H ls.length (fun i v => ls[i]? = some v)) (hp : Paired (PairAt H) ls L) (hn : L.length ≤ 50000) (st : Nat × Nat → L2.St) (hw : ∀ q, wipe (st q) vs = wipe σ vs)
    (hg : ∀ q t H1 Q, Ex H H1 → H1 t = some (.tup [vI q.1, vI q.2]) → Q (st q) H1 → g (.ref t) (wipe σ vs) H1 Q) (F : Nat × Nat → Nat × Nat)
    (he : ∀ q H1, q ∈ L → Ex H H1 → EvP te (st q) H1 (fun v Ha Hb => ∃ t, v = .ref t ∧ Ha t = none ∧ Hb t = some (.tup [vI (F q).1, vI (F q).2]))) :
    EvP (tLc wi g tYes te vs) σ H (fun v Ha Hb => ∃ p, v = .ref p ∧ Ha p = none ∧ LanesAt Hb p (L.map F)) := by
  have hll : ls.length = L.length := PySem.Paired.length hp
  have at_ : ∀ {i : Nat} {x : V}, ls[i]? = some x → ∃ t, x = .ref t ∧ H t = some (.tup [vI (L.getD i (0, 0)).1, vI (L.getD i (0, 0)).2]) ∧ L[i]? = some (L.getD i (0, 0)) := fun {i x} hx => by
    obtain ⟨q, hq, t, r, k⟩ := paired_ix hp hx
    have : L.getD i (0, 0) = q := by rw [List.getD_eq_getElem?_getD, hq]; rfl
    exact ⟨t, r, this ▸ k, this ▸ hq⟩
  refine EvP.imp (lcI s (by omega) (fun i _ => st (L.getD i (0, 0))) (fun _ _ => hw _) (fun D i ys H' => Paired (fun v q => ∃ t, t ≠ D ∧ v = .ref t ∧ H' t = some (.tup [vI q.1, vI q.2])) ys ((L.take i).map F)) (fun i x H1 Q e _ hx q => ?_) (fun _ => true) (fun _ _ _ _ _ _ => fun H1 e Q q => q H1 (Ex.refl _))
    (fun i v Ha Hb => ∃ q t, L[i]? = some q ∧ v = .ref t ∧ Ha t = none ∧ Hb t = some (.tup [vI (F q).1, vI (F q).2])) (fun i x Ha ea hi hx _ => ?_) (fun D Ha _ _ => .nil) (fun D i ys Ha Hb e h => ?_) (fun D i ys Ha xs _ h => ?_) (fun D i ys v Ha Hb _ eab hD hi _ h hq xs => ?_) (fun _ _ _ _ _ _ h => nomatch h)) (fun v Ha Hb _ _ h => ?_)
  · obtain ⟨t, rfl, k, _⟩ := at_ hx
    exact hg _ t H1 Q e (e _ _ k) q
  · obtain ⟨t, rfl, k, m⟩ := at_ hx
    refine (he _ Ha (List.mem_of_getElem? m) ea).imp fun v H1 H2 _ _ h => ?_
    obtain ⟨t', a, b, c⟩ := h
    exact ⟨_, t', m, a, b, c⟩
  · exact paired_imp (fun v q ⟨t, n, r, h⟩ => ⟨t, n, r, e _ _ h⟩) h
  · exact paired_imp (fun v q ⟨t, n, r, h⟩ => ⟨t, n, r, by rw [upd_ne n]; exact h⟩) h
  · obtain ⟨q, t, hq1, rfl, ht1, ht2⟩ := hq
    have nt : t ≠ D := fun z => by rw [z, hD] at ht1; cases ht1
    rw [take_more hq1, List.map_append]
    exact Paired.snoc (paired_imp (fun v q ⟨t', n, r, h⟩ => ⟨t', n, r, by rw [upd_ne n]; exact eab _ _ h⟩) h) ⟨t, nt, rfl, by rw [upd_ne nt]; exact ht2⟩
  · obtain ⟨D, ys, rfl, hD0, hD, _, h⟩ := h
    rw [hll, List.take_length] at h
    exact ⟨D, rfl, hD0, ys, hD, paired_imp (fun v q ⟨t, _, r, h⟩ => ⟨t, r, h⟩) h⟩
theorem seqIx {d n : Nat} (h : d < n) : seqIndex? (d : Int) n = some d := by
  unfold seqIndex?
  have h1 : ¬ ((d : Int) < 0) := by omega
  have h2 : (0 : Int) ≤ (d : Int) := by omega
  have h3 : (d : Int) < (n : Int) := by omega
  simp [h1, h2, h3, h]
theorem rgV_N (n : Nat) : rgV 0 (n : Int) = vIs (List.range n) := by
  unfold rgV
  have : ((n : Int) - 0).toNat = n := by omega
  rw [this]
  refine List.map_congr_left fun i _ => ?_
  show V.int (0 + (i : Int)) = V.int (i : Int)
  rw [Int.zero_add]
theorem erase_perm : ∀ {l : List Nat} {d : Nat} {x : Nat}, l[d]? = some x → l.Perm (x :: l.eraseIdx d)
  | [], d, x, h => by simp at h
  | a :: l, 0, x, h => by
    have : a = x := Option.some.inj h
    subst this
    exact List.Perm.refl _
  | a :: l, d + 1, x, h => by
    have ih := erase_perm (l := l) (d := d) (x := x) (by simpa using h)
    exact (ih.cons a).trans (List.Perm.swap x a _)
theorem erase_vIs : ∀ (l : List Nat) (d : Nat), (vIs l).eraseIdx d = vIs (l.eraseIdx d)
  | [], d => rfl
  | a :: l, 0 => rfl
  | a :: l, d + 1 => by
    show vI a :: (vIs l).eraseIdx d = vI a :: vIs (l.eraseIdx d)
    rw [erase_vIs l d]
end Pr
set_option Elab.async false
set_option linter.all false
set_option maxRecDepth 100000
set_option maxHeartbeats 4000000
namespace Pr
open PySem PySem.Spec PyProof.Rows L2 TM Ep
open Evl (Ex Ev EvT EvA EvL)
def spSide (C : Addr) : Sp := fun vs H Q _ => ∃ L vt N c a ya y t, vs = [.ref c, .ref a, .ref ya, vI y, vI t] ∧ CAt C H c L ∧ LanesAt H a L ∧ H ya = some (.lst (vIs (yardsL L))) ∧ Good vt L ∧ IsNext vt L N ∧ y ∈ yardsL L ∧ t ∈ adj L y ∧ ∀ H', Ex H H' → Q (.bl true) H'
section
variable {K : PySem.W.Frag} {σ : L2.St} {H : Hp} {te ta tb : TE} {P : VP} {x y z : V}
theorem ev_opP {r : R2} (ha : EvP ta σ H P) (hb : Ev tb σ H y) (hr : ∀ v H1 H2, Ex H H1 → Ex H1 H2 → P v H1 H2 → Evl.RV r v y H2 z) : Ev (tOp r ta tb) σ H z := fun H0 e Q q =>
  ha H0 e _ fun v H1 e1 p => hb H1 (e.trans e1) _ fun H2 e2 => hr v H0 H1 e e1 p H2 e2 Q fun H3 e3 => q H3 ((e1.trans e2).trans e3)
theorem ev_repr {a : Addr} {l : List Nat} (h : Ev te σ H (.ref a)) (ho : H a = some (.lst (vIs l))) (hs : ∀ x ∈ l, x < 1024) (hl : l.length ≤ 1001) : Ev (tCB (G8.rRepr K) (tCons te tNil)) σ H (.str (dN l).shown) :=
  ev_cb1 h fun H1 e Q q => repr_N (Evl.sq_of (e _ _ ho)) hs hl q
theorem ev_reprP {l : List Nat} (h : EvP te σ H (NewL (vIs l))) (hs : ∀ x ∈ l, x < 1024) (hl : l.length ≤ 1001) : Ev (tCB (G8.rRepr K) (tCons te tNil)) σ H (.str (dN l).shown) := fun H1 e Q q =>
  h H1 e _ fun v H2 e2 ⟨p, r, _, k⟩ => by
    subst r
    exact repr_N (Evl.sq_of k) hs hl (q H2 e2)
theorem rv_eqN {a b : Addr} {l m : List Nat} (h1 : H a = some (.lst (vIs l))) (h2 : H b = some (.lst (vIs m))) : Evl.RV (rEqD K) (.ref a) (.ref b) H (.bl (decide (l = m))) := fun H1 e Q q =>
  ⟨dN l, dN m, dp_N (Evl.sq_of (e _ _ h1)), dp_N (Evl.sq_of (e _ _ h2)), shaped_N _, shaped_N _, by rw [eqv_N]; exact q H1 (Ex.refl _)⟩
theorem rv_neN {a b : Addr} {l m : List Nat} (h1 : H a = some (.lst (vIs l))) (h2 : H b = some (.lst (vIs m))) : Evl.RV (rNeD K) (.ref a) (.ref b) H (.bl (!decide (l = m))) := fun H1 e Q q =>
  ⟨dN l, dN m, dp_N (Evl.sq_of (e _ _ h1)), dp_N (Evl.sq_of (e _ _ h2)), shaped_N _, shaped_N _, by rw [eqv_N]; exact q H1 (Ex.refl _)⟩
theorem ev_beh {C : Addr} {L : Lanes} {vt : List Nat} {N : Nat → Nat → Nat} {c : Addr} {y t : Nat} {ts : TA} (hC : CAt C H c L) (G : Good vt L) (I : IsNext vt L N) (hy : y ∈ yardsL L) (ht : t ∈ adj L y) (h : EvA ts σ H [.ref c, vI y, vI t]) : EvP (tCall (spBehind C) [] E0 ts) σ H (NewL (vIs (bh L N y t))) :=
  evp_callA h (fun H2 e2 Q q => ⟨L, vt, N, c, y, t, rfl, hC.ex e2, G, I, hy, ht, fun q' H3 e3 hq hq' => q _ H3 e3 ⟨q', rfl, hq, hq'⟩⟩) (fun v H1 H2 H3 _ e12 _ h => newL_back e12 h)
theorem ev_sortN {l : List Nat} (h : EvP te σ H (fun v _ Hb => ∃ p, v = .ref p ∧ Hb p = some (.lst (vIs l)))) : EvP (tCB (rSortedI K) (tCons te tNil)) σ H (NewL (vIs (isort l))) :=
  evp_cb1 h fun v Ha Hb _ eab h Q' q => by
    obtain ⟨p, rfl, hp⟩ := h
    refine ⟨p, l.map fun (n : Nat) => (n : Int), rfl, ?_, fun ns' c perm srt hc => ?_⟩
    · rw [← vIs_int]
      exact Evl.sq_of hp
    · have := int_sorted perm srt
      subst this
      rw [← vIs_int]
      exact q _ _ (Ex.new hc) ⟨c, rfl, Evl.fresh_back eab hc, upd_same⟩
theorem ev_catN {a : Addr} {l m : List Nat} (h : Ev ta σ H (.ref a)) (ho : H a = some (.lst (vIs l))) (h2 : EvP tb σ H (NewL (vIs m))) (hs : l.length + m.length ≤ 100000) : EvP (tOp rCat ta tb) σ H (fun v _ Hb => ∃ p, v = .ref p ∧ Hb p = some (.lst (vIs (l ++ m)))) := fun H1 e Q q =>
  h H1 e _ fun H2 e2 => h2 H2 (e.trans e2) _ fun v H3 e3 ⟨p, r, hp, k⟩ => by
    subst r
    refine ⟨a, p, vIs l, vIs m, rfl, rfl, ((e.trans e2).trans e3) _ _ ho, k, ?_, fun c hc => q _ _ ((e2.trans e3).trans (Ex.new hc)) ⟨c, rfl, ?_⟩⟩
    · rw [List.length_map, List.length_map]
      exact szL hs
    · rw [upd_same]
      unfold vIs
      rw [List.map_append]
theorem small_bh {vt : List Nat} {L : Lanes} (G : Good vt L) {N : Nat → Nat → Nat} {y t : Nat} : ∀ x ∈ bh L N y t, x < 1024 := fun x hx => by
  have := (mem_yards.mp (mem_bh.mp hx).1).1
  have := G.small
  omega
end
end Pr
namespace Pr
open PySem PySem.Spec PyProof.Rows L2 TM Ep
open Evl (Ex Ev EvT EvA EvL EvO)
def spRight : Sp := fun vs H Q _ => ∃ p, vs = [.ref p] ∧ PotAt H p ∧ ∀ H', Q (.bl true) H'
def spLaw (K : PySem.W.Frag) : Sp := fun vs H Q _ => ∃ (a : Addr) (ns : List Int), vs = [.ref a] ∧ SqL K H a (ns.map V.int) ∧ ∀ H', Q (.bl true) H'
theorem but_exB {p : Addr} {H H' : Hp} (e : ExB p H H') : Ex (but H p) (but H' p) := fun b o h => by
  unfold but at h ⊢
  split at h
  · cases h
  · rename_i n
    rw [if_neg n]
    exact e b o h n
/-- all but what is locked -/
def Nf (H H' : Hp) : Prop := ∀ b o, H b = some o → (∀ od u, o ≠ HO.frz od u) → H' b = some o
theorem Nf.but {H : Hp} {p : Addr} {od : Obj} {u : HO} (h : H p = some (.frz od u)) (v : HO) : Nf H (but (upd H p v) p) := fun b o hb n => by
  have nb : b ≠ p := fun z => by
    rw [z, h] at hb
    exact n od u (Option.some.inj hb).symm
  exact but_ne (by rw [upd_ne nb]; exact hb) nb
theorem LanesAt.nf {H H' : Hp} {a : Addr} {L : Lanes} (e : Nf H H') (h : LanesAt H a L) : LanesAt H' a L := by
  obtain ⟨vs, r, k⟩ := h
  exact ⟨vs, e _ _ r (fun _ _ z => nomatch z), paired_imp (fun _ _ ⟨t, q, z⟩ => ⟨t, q, e _ _ z (fun _ _ z => nomatch z)⟩) k⟩
theorem CAt.nf {C : Addr} {H H' : Hp} {p : Addr} {L : Lanes} (x : Nf H H') (h : CAt C H p L) : CAt C H' p L := by
  obtain ⟨dx, l, d, e, y, g, rs, qs, a, b⟩ := h
  refine ⟨dx, l, d, e, y, g, rs, qs, x _ _ a (fun _ _ z => nomatch z), ?_, x _ _ b.d_ (fun _ _ z => nomatch z), ⟨b.r_.len, fun i r k => x _ _ (b.r_.at_ i r k) (fun _ _ z => nomatch z)⟩, x _ _ b.e_ (fun _ _ z => nomatch z), b.ql, fun i q k => ?_, x _ _ b.y_ (fun _ _ z => nomatch z), x _ _ b.g_ (fun _ _ z => nomatch z)⟩
  · obtain ⟨M, u, v, sv⟩ := b.l_
    exact ⟨M, u.nf x, v, sv⟩
  · obtain ⟨kvs, u, v⟩ := b.q_ i q k
    exact ⟨kvs, u, x _ _ v (fun _ _ z => nomatch z)⟩
theorem LanesAt.exB {H H' : Hp} {p a : Addr} {L : Lanes} (e : ExB p H H') (hp : PotAt H p) (n : a ≠ p) (h : LanesAt H a L) : LanesAt H' a L := by
  obtain ⟨vs, r, k⟩ := h
  exact ⟨vs, e _ _ r n, paired_imp (fun _ _ ⟨t, q, z⟩ => ⟨t, q, e _ _ z (hp.ne z (fun _ _ z => nomatch z))⟩) k⟩
theorem mem_cutV {x : V} {xs : List V} {lo hi : Option Int} (h : x ∈ cutV xs lo hi) : x ∈ xs := List.mem_of_mem_drop (List.mem_of_mem_take h)
theorem cutV_len {xs : List V} {lo hi : Option Int} : (cutV xs lo hi).length ≤ xs.length := by
  unfold cutV
  rw [List.length_take, List.length_drop]
  omega
section
variable {K : PySem.W.Frag} {σ : L2.St} {H : Hp} {te ta tb : TE}
def OldL (xs : List V) : VP := fun v _ H2 => ∃ p, v = .ref p ∧ H2 p = some (.lst xs)
theorem oldL {xs : List V} (h : EvP te σ H (NewL xs)) : EvP te σ H (OldL xs) := h.imp fun v _ _ _ _ ⟨p, r, _, k⟩ => ⟨p, r, k⟩
theorem evp_sl {tl th : TO} {xs : List V} {lo hi : Option Int} (h : EvP te σ H (OldL xs)) (h1 : EvO tl σ H lo) (h2 : EvO th σ H hi) : EvP (tSl (rSlL K) te tl th) σ H (NewL (cutV xs lo hi)) := fun H1 e Q q =>
  h H1 e _ fun v H2 e2 ⟨p, r, k⟩ => h1 H2 (e.trans e2) _ fun H3 e3 => h2 H3 ((e.trans e2).trans e3) _ fun H4 e4 =>
    ⟨p, xs, r, Evl.sq_of ((e3.trans e4) _ _ k), fun c hc => q _ _ (((e2.trans e3).trans e4).trans (Ex.new hc)) ⟨c, rfl, Evl.fresh_back ((e2.trans e3).trans e4) hc, upd_same⟩⟩
theorem evp_cat {xs ys : List V} (h : EvP ta σ H (OldL xs)) (h2 : EvP tb σ H (OldL ys)) (hs : xs.length + ys.length ≤ 100000) : EvP (tOp rCat ta tb) σ H (NewL (xs ++ ys)) := fun H1 e Q q =>
  h H1 e _ fun v H2 e2 ⟨a, r, k⟩ => h2 H2 (e.trans e2) _ fun u H3 e3 ⟨b, r', k'⟩ =>
    ⟨a, b, xs, ys, r, r', e3 _ _ k, k', szL hs, fun c hc => q _ _ ((e2.trans e3).trans (Ex.new hc)) ⟨c, rfl, Evl.fresh_back (e2.trans e3) hc, upd_same⟩⟩
end
end Pr
set_option Elab.async false
set_option linter.all false
set_option maxRecDepth 100000
set_option maxHeartbeats 4000000
/-! one text, two readings (a list or a tuple): the reader of the goal chooses, at each turn anew -/
namespace Ei
open PySem PySem.Spec PyProof.Rows L2
def eE (a b : TE) : TE := fun σ H Q => a σ H Q ∨ b σ H Q
def eG (a b : TG) : TG := fun v σ H Q => a v σ H Q ∨ b v σ H Q
def eI (a b : TI) : TI := fun σ H R => a σ H R ∨ b σ H R
def eT (a b : TT) : TT := fun σ H Q => a σ H Q ∨ b σ H Q
section
variable {X : Cx} {e tg : Expr}
theorem pe_ei {a b : TE} (h1 : PE X e a) (h2 : PE X e b) : PE X e (eE a b) := ⟨fun pins s σ H Q I h => h.elim (h1.run pins s σ H Q I) (h2.run pins s σ H Q I)⟩
theorem pt_ei {a b : TT} (h1 : PT X e a) (h2 : PT X e b) : PT X e (eT a b) := ⟨fun pins s σ H Q I h => h.elim (h1.run pins s σ H Q I) (h2.run pins s σ H Q I)⟩
theorem pg_ei {a b : TG} (h1 : PG X tg a) (h2 : PG X tg b) : PG X tg (eG a b) := ⟨fun pins s σ H v u Q I r h => h.elim (h1.run pins s σ H v u Q I r) (h2.run pins s σ H v u Q I r)⟩
theorem pi_ei {a b : TI} (h1 : PI X tg e a) (h2 : PI X tg e b) : PI X tg e (eI a b) := ⟨fun pins s σ H R I h => h.elim (h1.run pins s σ H R I) (h2.run pins s σ H R I)⟩
end
end Ei
set_option Elab.async false
set_option linter.all false
set_option maxRecDepth 100000
set_option maxHeartbeats 4000000
/-! bounds, books and loads in the heap -/
namespace Pr
open PySem PySem.Spec PyProof.Rows L2 TM Ep Nw
open Evl (Ex Ev EvT EvA EvL EvU EvO)
def oV : Option Nat → V
  | none => .non
  | some n => vI n
def BdR : Rep Bd := fun H v b => ∃ t, v = .ref t ∧ H t = some (.tup [oV b.1, oV b.2.1, vI b.2.2])
def EntR : Rep Ent := fun H v e => ∃ t, v = .ref t ∧ H t = some (.tup [vI e.1, vI e.2.1, vI e.2.2])
def PrR : Rep (Nat × Nat) := fun H v p => ∃ t, v = .ref t ∧ H t = some (.tup [vI p.1, vI p.2])
def SeqR {β : Type} (S : Rep β) : Rep (List β) := fun H v l => ∃ p vs, v = .ref p ∧ (H p = some (.lst vs) ∨ H p = some (.tup vs)) ∧ Paired (S H) vs l
def AltR : Rep Alt := fun H v a => ∃ t w, v = .ref t ∧ H t = some (.tup [vI a.1, w]) ∧ SeqR BdR H w a.2
def AltL : Rep Alt := fun H v a => ∃ t w, v = .ref t ∧ H t = some (.tup [vI a.1, w]) ∧ LstOf BdR H w a.2
abbrev BkR : Rep Bk := SeqR AltR
abbrev LdR : Rep Ld := SeqR EntR
theorem moB : Mono BdR := fun H H' v b e ⟨t, r, k⟩ => ⟨t, r, e _ _ k⟩
theorem moE : Mono EntR := fun H H' v b e ⟨t, r, k⟩ => ⟨t, r, e _ _ k⟩
theorem moP : Mono PrR := fun H H' v b e ⟨t, r, k⟩ => ⟨t, r, e _ _ k⟩
theorem moSeq {β : Type} {S : Rep β} (mo : Mono S) : Mono (SeqR S) := fun H H' v b e ⟨p, vs, r, k, h⟩ => ⟨p, vs, r, k.imp (e _ _) (e _ _), mo.paired e h⟩
theorem moA : Mono AltR := fun H H' v b e ⟨t, w, r, k, h⟩ => ⟨t, w, r, e _ _ k, moSeq moB _ _ _ _ e h⟩
theorem moAL : Mono AltL := fun H H' v b e ⟨t, w, r, k, h⟩ => ⟨t, w, r, e _ _ k, moB.lst _ _ _ _ e h⟩
theorem moBk : Mono BkR := moSeq moA
theorem moLd : Mono LdR := moSeq moE
theorem seq_of {β : Type} {S : Rep β} {H : Hp} {v : V} {l : List β} (h : LstOf S H v l) : SeqR S H v l := by
  obtain ⟨p, vs, r, k, h⟩ := h
  exact ⟨p, vs, r, .inl k, h⟩
theorem altL_R {H : Hp} {v : V} {a : Alt} (h : AltL H v a) : AltR H v a := by
  obtain ⟨t, w, r, k, h⟩ := h
  exact ⟨t, w, r, k, seq_of h⟩
theorem bkL_R {H : Hp} {v : V} {B : Bk} (h : LstOf AltL H v B) : BkR H v B := by
  obtain ⟨p, vs, r, k, h⟩ := h
  exact ⟨p, vs, r, .inl k, pimp (fun _ _ z => altL_R z) h⟩
theorem bkS_R {H : Hp} {v : V} {B : Bk} (h : SeqR AltL H v B) : BkR H v B := by
  obtain ⟨p, vs, r, k, h⟩ := h
  exact ⟨p, vs, r, k, pimp (fun _ _ z => altL_R z) h⟩
theorem oV_eq {a b : Option Nat} (h : oV a = oV b) : a = b := by
  cases a <;> cases b
  · rfl
  · cases h
  · cases h
  · have h2 : V.int _ = V.int _ := h
    injection h2 with h
    exact congrArg some (by omega)
theorem ok_in {o : Option Nat} {x : Nat} : inV (oV o) [.non, vI x] = okO o x := by
  cases o with
  | none => rfl
  | some y =>
    show (eqV .non (vI y) || (eqV (vI x) (vI y) || false)) = decide (y = x)
    show (false || ((((x : Int) == (y : Int)) : Bool) || false)) = decide (y = x)
    by_cases h : y = x
    · subst h
      simp
    · rw [decide_eq_false h, Bool.false_or, Bool.or_false, beq_eq_false_iff_ne]
      omega
theorem flat_o (o : Option Nat) : flatV (oV o) = true := by cases o <;> rfl
theorem sum_cast : ∀ l : List Nat, (l.map fun (n : Nat) => (n : Int)).sum = ((l.sum : Nat) : Int)
  | [] => rfl
  | a :: l => by rw [List.map_cons, List.sum_cons, List.sum_cons, sum_cast l]; omega
section
variable {K : PySem.W.Frag} {σ : L2.St} {H : Hp} {te ta tb tc : TE} {x y z : V}
theorem go_3 {i j l : Nat} {t : Addr} {a b c : V} {Q : L2.St → Hp → Prop} (h : H t = some (.tup [a, b, c])) (k : Q (((σ.set i (some a)).set j (some b)).set l (some c)) H) : gTup K 3 (gCons (gName i) (gCons (gName j) (gCons (gName l) gNil))) (.ref t) σ H Q :=
  ⟨t, _, rfl, Evl.st_of h, rfl, _, _, rfl, _, _, rfl, _, _, rfl, rfl, k⟩
theorem go_2 {i j : Nat} {t : Addr} {a b : V} {Q : L2.St → Hp → Prop} (h : H t = some (.tup [a, b])) (k : Q ((σ.set i (some a)).set j (some b)) H) : gTup K 2 (gCons (gName i) (gCons (gName j) gNil)) (.ref t) σ H Q :=
  ⟨t, _, rfl, Evl.st_of h, rfl, _, _, rfl, _, _, rfl, rfl, k⟩
theorem ev_isTup {t : Addr} {xs : List V} (h : Ev te σ H (.ref t)) (ht : H t = some (.tup xs)) : Ev (tCB (rIsi K) (tCons te (tCons (tC (.ty "tuple")) tNil))) σ H (.bl true) :=
  ev_cb2 h Evl.ev_c fun H1 e Q q => ⟨_, _, _, _, true, rfl, .ty _, .base (.tup (e _ _ ht)), rfl, q⟩
theorem ev_lenT {t : Addr} {xs : List V} (h : Ev te σ H (.ref t)) (ht : H t = some (.tup xs)) : Ev (tCB (rLenA K) (tCons te tNil)) σ H (.int (xs.length : Int)) := fun H1 e Q q =>
  h H1 e _ fun H2 e2 => ⟨_, _, rfl, .inr ⟨xs, Evl.st_of ((e.trans e2) _ _ ht), rfl⟩, q H2 e2⟩
theorem ev_lenS {β : Type} {S : Rep β} {v : V} {l : List β} (h : Ev te σ H v) (hs : SeqR S H v l) : Ev (tCB (rLenA K) (tCons te tNil)) σ H (vI l.length) := fun H1 e Q q =>
  h H1 e _ fun H2 e2 => by
    obtain ⟨p, vs, rfl, k, hp⟩ := hs
    have hl : vs.length = l.length := PySem.Paired.length hp
    refine ⟨_, l.length, rfl, ?_, q H2 e2⟩
    rcases k with k | k
    · exact .inl ⟨vs, Evl.sq_of ((e.trans e2) _ _ k), hl.symm⟩
    · exact .inr ⟨vs, Evl.st_of ((e.trans e2) _ _ k), hl.symm⟩
theorem ev_chain {r r' : R2} {w : V} (ha : Ev ta σ H x) (hb : Ev tb σ H y) (h1 : Evl.RV r x y H (.bl true)) (hc : Ev tc σ H z) (h2 : Evl.RV r' y z H w) : Ev (tChain r r' ta tb tc) σ H w := fun H1 e1 Q q =>
  ha H1 e1 _ fun H2 e2 => hb H2 (e1.trans e2) _ fun H3 e3 => h1 H3 ((e1.trans e2).trans e3) _ fun H4 e4 => ⟨true, rfl, iteT (hc H4 (((e1.trans e2).trans e3).trans e4) _ fun H5 e5 => h2 H5 ((((e1.trans e2).trans e3).trans e4).trans e5) _ fun H6 e6 => q H6 ((((e2.trans e3).trans e4).trans e5).trans e6))⟩
theorem ev_all {bs : List Bool} (h : EvP te σ H (NewL (bs.map V.bl))) : Ev (tCB (rAll K) (tCons te tNil)) σ H (.bl (bs.all id)) := fun H1 e Q q =>
  h H1 e _ fun v H2 e2 ⟨p, r, _, k⟩ => by
    subst r
    exact ⟨p, bs, rfl, Evl.sq_of k, q H2 e2⟩
theorem ev_any {bs : List Bool} (h : EvP te σ H (NewL (bs.map V.bl))) : Ev (tCB (rAny K) (tCons te tNil)) σ H (.bl (bs.any id)) := fun H1 e Q q =>
  h H1 e _ fun v H2 e2 ⟨p, r, _, k⟩ => by
    subst r
    exact ⟨p, bs, rfl, Evl.sq_of k, q H2 e2⟩
theorem ev_sumN {l : List Nat} (h : EvP te σ H (NewL (vIs l))) : Ev (tCB (rSum K) (tCons te tNil)) σ H (vI l.sum) := fun H1 e Q q =>
  h H1 e _ fun v H2 e2 ⟨p, r, _, k⟩ => by
    subst r
    refine ⟨p, l.map fun (n : Nat) => (n : Int), rfl, by rw [← vIs_int]; exact Evl.sq_of k, ?_⟩
    rw [sum_cast]
    exact q H2 e2
theorem ev_inO {o : Option Nat} {s : Nat} (h : Ev ta σ H (oV o)) (h2 : Ev tb σ H (vI s)) : Ev (tOp (rIn K false) ta (tTup (tCons (tC .non) (tCons tb tNil)))) σ H (.bl (okO o s)) :=
  Evl.ev_is (Evl.ev_inU h (Evl.eu_tup (vs := [.non, vI s]) (Evl.ea_cons Evl.ev_c (Evl.ea_cons h2 Evl.ea_nil)) (by show 2 ≤ 100000; decide)) (flat_o o) rfl) (by rw [ok_in])
theorem rv_isN {o : Option Nat} : Evl.RV (fun x y H Q => y = .non ∧ Q (.bl (decide (x = .non))) H) (oV o) .non H (.bl o.isNone) := fun H1 _ Q q => ⟨rfl, by
  cases o with
  | none => exact q H1 (Ex.refl _)
  | some n => exact q H1 (Ex.refl _)⟩
theorem ev_count {ts : TA} {n : Nat} (h : EvA ts σ H [vI n]) : Ev (tCall spCount [] E0 ts) σ H (.bl true) :=
  ev_evp (evp_callA h (fun H2 e2 Q q => ⟨n, rfl, by rw [decide_eq_true (Int.natCast_nonneg n)]; exact q _ H2 (Ex.refl _) rfl⟩) (fun _ _ _ _ _ _ _ h => h))
theorem ev_isRow {β : Type} {S : Rep β} {ts : TA} {v : V} {l : List β} (h : EvA ts σ H [v]) (hs : SeqR S H v l) : Ev (tCall (spRow K) [] E0 ts) σ H (.bl true) :=
  ev_evp (evp_callA h (fun H2 e2 Q q => by
    obtain ⟨p, vs, rfl, k, _⟩ := hs
    exact ⟨p, vs, rfl, k.imp (e2 _ _) (e2 _ _), fun H3 e3 => q _ H3 e3 rfl⟩) (fun _ _ _ _ _ _ _ h => h))
/-- one argument of its own making, and one that is known -/
theorem evp_call2 {sp : Sp} {E : XK} {P1 P : VP} (h1 : EvP ta σ H P1) (h2 : Ev tb σ H y) (hs : ∀ v H1 H2 H3, Ex H H1 → Ex H1 H2 → Ex H2 H3 → P1 v H1 H2 → ∀ Q : VK, (∀ z H4, Ex H3 H4 → P z H1 H4 → Q z H4) → sp [v, y] H3 Q E) : EvP (tCall sp [] E (tCons ta (tCons tb tNil))) σ H P := fun H1 e Q q =>
  h1 H1 e _ fun v H2 e2 p => h2 H2 (e.trans e2) _ fun H3 e3 => hs v H1 H2 H3 e e2 e3 p Q fun z H4 e4 p4 => q z H4 ((e2.trans e3).trans e4) p4
theorem evp_call2' {sp : Sp} {E : XK} {P1 P : VP} (h2 : Ev ta σ H y) (h1 : EvP tb σ H P1) (hs : ∀ v H1 H2 H3, Ex H H1 → Ex H1 H2 → Ex H2 H3 → P1 v H2 H3 → ∀ Q : VK, (∀ z H4, Ex H3 H4 → P z H1 H4 → Q z H4) → sp [y, v] H3 Q E) : EvP (tCall sp [] E (tCons ta (tCons tb tNil))) σ H P := fun H1 e Q q =>
  h2 H1 e _ fun H2 e2 => h1 H2 (e.trans e2) _ fun v H3 e3 p => hs v H1 H2 H3 e e2 e3 p Q fun z H4 e4 p4 => q z H4 ((e2.trans e3).trans e4) p4
/-- what is walked: a list or a tuple of such -/
theorem src_seq {v : V} {p : Addr} {vs : List V} (h : Ev te σ H (.ref p)) (hx : H p = some (.lst vs) ∨ H p = some (.tup vs)) : Src (Ei.eI (iList K te) (iTup K te)) σ H vs.length (fun i v => vs[i]? = some v) := fun H1 e R k => by
  rcases hx with hx | hx
  · exact .inl (src_list h (Evl.sq_of hx) H1 e R k)
  · exact .inr (src_tup h (Evl.st_of hx) H1 e R k)
/-- list(x), x a list or a tuple -/
theorem evp_listS {β : Type} {S : Rep β} (mo : Mono S) {v : V} {l : List β} (h : Ev te σ H v) (hs : SeqR S H v l) : EvP (tCB (rListOf K) (tCons te tNil)) σ H (NewLst S H l) := fun H1 e Q q =>
  h H1 e _ fun H2 e2 => by
    obtain ⟨p, vs, rfl, k, hp⟩ := hs
    have k2 := k.imp ((e.trans e2) p _) ((e.trans e2) p _)
    refine ⟨p, vs, rfl, k2.imp Evl.sq_of Evl.st_of, fun c hc => ?_⟩
    have f1 := Evl.fresh_back e2 hc
    refine q _ _ (e2.trans (Ex.new hc)) ⟨c, vs, upd H c (.lst vs), rfl, f1, fun b o z => ?_, upd_same, mo.paired (Ex.new (Evl.fresh_back e f1)) hp⟩
    by_cases n : b = c
    · subst n
      rw [upd_same] at z ⊢
      exact ⟨z, .inr f1⟩
    · rw [upd_ne n] at z ⊢
      exact ⟨(e.trans e2) _ _ z, .inl z⟩
/-- (x, [..]) -/
theorem evp_tup2 {β : Type} {S : Rep β} (mo : Mono S) {l : List β} (h : Ev ta σ H x) (h2 : EvP tb σ H (NewLst S H l)) : EvP (tTup (tCons ta (tCons tb tNil))) σ H (fun v H1 H2 => ∃ t w Hn, v = .ref t ∧ H1 t = none ∧ Mk H H1 H2 Hn ∧ Hn t = some (.tup [x, w]) ∧ LstOf S Hn w l) := fun H1 e Q q =>
  h H1 e _ fun H2 e2 => h2 H2 (e.trans e2) _ fun w H3 e3 ⟨p, vs, Hn, r, fp, m, k, hp⟩ => ⟨(by show 2 ≤ sizeLine; decide), fun t ht => by
    subst r
    have ft := Evl.fresh_back (e2.trans e3) ht
    obtain ⟨m2, ex2⟩ := (m.back e2).put (o := .tup [x, .ref p]) ht ft
    exact q _ _ ((e2.trans e3).trans (Ex.new ht)) ⟨t, .ref p, _, rfl, ft, m2, upd_same, p, vs, rfl, ex2 _ _ k, mo.paired ex2 hp⟩⟩
/-- xs + ys -/
theorem evp_catS {β : Type} {S : Rep β} (mo : Mono S) {l m : List β} (h : EvP ta σ H (NewLst S H l)) (h2 : EvP tb σ H (NewLst S H m)) (hs : l.length + m.length ≤ 100000) : EvP (tOp rCat ta tb) σ H (NewLst S H (l ++ m)) := fun H1 e Q q =>
  h H1 e _ fun v H2 e2 ⟨p, vs, Hn, r, fp, mk, k, hp⟩ => h2 H2 (e.trans e2) _ fun u H3 e3 ⟨p', vs', Hn', r', fp', mk', k', hp'⟩ => by
    subst r; subst r'
    have l1 : vs.length = l.length := PySem.Paired.length hp
    have l2 : vs'.length = m.length := PySem.Paired.length hp'
    refine ⟨p, p', vs, vs', rfl, rfl, e3 _ _ (mk _ _ k).1, (mk' _ _ k').1, szL (by omega), fun c hc => ?_⟩
    have f1 := Evl.fresh_back (e2.trans e3) hc
    obtain ⟨mj, ja, jb⟩ := (mk.on e3).join (mk'.back e2)
    obtain ⟨m2, ex2⟩ := mj.put (o := .lst (vs ++ vs')) hc f1
    exact q _ _ ((e2.trans e3).trans (Ex.new hc)) ⟨c, _, _, rfl, f1, m2, upd_same, papp (mo.paired (ja.trans ex2) hp) (mo.paired (jb.trans ex2) hp')⟩
end
theorem evp_nbsM {K : PySem.W.Frag} {σ : L2.St} {H : Hp} {te ta : TE} {C : Addr} {L : Lanes} {p i : Nat} (h : Ev te σ H (.ref p)) (h2 : Ev ta σ H (vI i)) (hC : CAt C H p L) (hi : i < L.length + 1) : EvP (tMeth C "neighbours" (spNbs C) [] E0 te (tCons ta tNil)) σ H (NewL (vIs (adj L i))) := fun H1 e Q q =>
  h H1 e _ fun H2 e2 => by
    have hC2 := hC.ex (e.trans e2)
    obtain ⟨dx, l, d, ee, yy, g, rs, qs, ho, _⟩ := id hC2
    refine ⟨p, dx, _, rfl, ho, fl_no (by rfl), ?_⟩
    refine h2 H2 (e.trans e2) _ fun H3 e3 => ?_
    exact ⟨L, p, i, rfl, hC2.ex e3, hi, fun q' H4 e4 fq hq => q _ H4 ((e2.trans e3).trans e4) ⟨q', rfl, Evl.fresh_back (e2.trans e3) fq, hq⟩⟩
end Pr

set_option Elab.async false
set_option linter.all false
set_option maxRecDepth 100000
set_option maxHeartbeats 4000000
namespace Pr
open PySem PySem.Spec PyProof.Rows L2 TM Ep Nw
open Evl (Ex Ev EvT EvA EvL EvU EvO)
def NAt (H : Hp) (r : Addr) (N : List Nat) : Prop := H r = some (.lst (vIs N))
def spAmong : Sp := fun vs H Q _ => ∃ r N n, vs = [.ref r, vI n] ∧ NAt H r N ∧ ∀ H', Ex H H' → Q (.bl (decide (n ∈ N))) H'
def spPairOf : Sp := fun vs H Q _ => ∃ r N o t, vs = [.ref r, vI o, vI t] ∧ NAt H r N ∧ ∀ H', Ex H H' → Q (.bl (decide ((o, t) ∈ pairsN N))) H'
def spPairsOf : Sp := fun vs H Q _ => ∃ B r N, Ex B H ∧ vs = [.ref r] ∧ NAt B r N ∧ N.length ≤ 100 ∧ ∀ v H', Ex H H' → NewLst PrR B (pairsN N) v H H' → Q v H'
def spBoundOf : Sp := fun vs H Q _ => ∃ r N v b, vs = [.ref r, v] ∧ NAt H r N ∧ BdR H v b ∧ GoodB N b ∧ ∀ H', Ex H H' → Q (.bl true) H'
def spAltOf : Sp := fun vs H Q _ => ∃ r N v a, vs = [.ref r, v] ∧ NAt H r N ∧ AltR H v a ∧ GoodA N a ∧ ∀ H', Ex H H' → Q (.bl true) H'
def spBookOf : Sp := fun vs H Q _ => ∃ r N v B, vs = [.ref r, v] ∧ NAt H r N ∧ N.length ≤ 100 ∧ BkR H v B ∧ GoodBk N B ∧ ∀ H', Ex H H' → Q (.bl true) H'
def spEntry : Sp := fun vs H Q _ => ∃ r N v e, vs = [.ref r, v] ∧ NAt H r N ∧ EntR H v e ∧ (e.1, e.2.1) ∈ pairsN N ∧ 0 < e.2.2 ∧ ∀ H', Ex H H' → Q (.bl true) H'
def spLoadOf : Sp := fun vs H Q _ => ∃ r N v l, vs = [.ref r, v] ∧ NAt H r N ∧ LdR H v l ∧ GoodL N l ∧ l.length ≤ 1000 ∧ ∀ H', Ex H H' → Q (.bl true) H'
def spCarts : Sp := fun vs H Q _ => ∃ v l o t, vs = [v, oV o, oV t] ∧ LdR H v l ∧ l.length ≤ 1000 ∧ ∀ H', Ex H H' → Q (vI (carts l o t)) H'
def spKeeps : Sp := fun vs H Q _ => ∃ v l w b, vs = [v, w] ∧ LdR H v l ∧ l.length ≤ 1000 ∧ BdR H w b ∧ ∀ H', Ex H H' → Q (.bl (keeps l b)) H'
def spStandsBy : Sp := fun vs H Q _ => ∃ v l w a, vs = [v, w] ∧ LdR H v l ∧ l.length ≤ 1000 ∧ AltR H w a ∧ a.2.length ≤ 1000 ∧ ∀ H', Ex H H' → Q (.bl (standsA l a)) H'
def spStandsIn : Sp := fun vs H Q _ => ∃ v l w B, vs = [v, w] ∧ LdR H v l ∧ l.length ≤ 1000 ∧ BkR H w B ∧ B.length ≤ 1000 ∧ (∀ a ∈ B, a.2.length ≤ 1000) ∧ ∀ H', Ex H H' → Q (.bl (standsB B l)) H'
def spCopied : Sp := fun vs H Q _ => ∃ B0 v B, Ex B0 H ∧ vs = [v] ∧ BkR B0 v B ∧ B.length ≤ 1000 ∧ ∀ z H', Ex H H' → NewLst AltL B0 B z H H' → Q z H'
def spAdded : Sp := fun vs H Q _ => ∃ B v l o t, Ex B H ∧ vs = [v, vI o, vI t] ∧ LdR B v l ∧ l.length ≤ 60 ∧ SmL (others l o t ++ [(o, t, carts l (some o) (some t) + 1)]) ∧ ∀ z H', Ex H H' → NewLst EntR B (addL l o t) z H H' → Q z H'
def spWithin : Sp := fun vs H Q _ => ∃ v l w m, vs = [v, w] ∧ LdR H v l ∧ l.length ≤ 1000 ∧ LdR H w m ∧ m.length ≤ 1000 ∧ m.Pairwise lt2 ∧ ∀ H', Ex H H' → Q (.bl (withinL l m)) H'
theorem NAt.ex {H H' : Hp} {r : Addr} {N : List Nat} (e : Ex H H') (h : NAt H r N) : NAt H' r N := e _ _ h
section
variable {K : PySem.W.Frag} {σ : L2.St} {H : Hp} {te ta tb tc : TE} {ts : TA} {x y z : V}
theorem dec_le {a b : Nat} : decide ((a : Int) ≤ (b : Int)) = decide (a ≤ b) := decide_eq_decide.mpr (by omega)
theorem ev_among {r : Addr} {N : List Nat} {n : Nat} (h : EvA ts σ H [.ref r, vI n]) (hN : NAt H r N) : Ev (tCall spAmong [] E0 ts) σ H (.bl (decide (n ∈ N))) :=
  ev_evp (evp_callA h (fun H2 e2 Q q => ⟨r, N, n, rfl, hN.ex e2, fun H3 e3 => q _ H3 e3 rfl⟩) (fun _ _ _ _ _ _ _ h => h))
theorem ev_pairOf {r : Addr} {N : List Nat} {o t : Nat} (h : EvA ts σ H [.ref r, vI o, vI t]) (hN : NAt H r N) : Ev (tCall spPairOf [] E0 ts) σ H (.bl (decide ((o, t) ∈ pairsN N))) :=
  ev_evp (evp_callA h (fun H2 e2 Q q => ⟨r, N, o, t, rfl, hN.ex e2, fun H3 e3 => q _ H3 e3 rfl⟩) (fun _ _ _ _ _ _ _ h => h))
theorem ev_carts {v : V} {l : Ld} {o t : Option Nat} (h : EvA ts σ H [v, oV o, oV t]) (hl : LdR H v l) (hs : l.length ≤ 1000) : Ev (tCall spCarts [] E0 ts) σ H (vI (carts l o t)) :=
  ev_evp (evp_callA h (fun H2 e2 Q q => ⟨v, l, o, t, rfl, moLd _ _ _ _ e2 hl, hs, fun H3 e3 => q _ H3 e3 rfl⟩) (fun _ _ _ _ _ _ _ h => h))
theorem rv_le1 {i j : Int} (h : i ≤ j) : Evl.RV (rI0 fun i j => V.bl (decide (i ≤ j))) (.int i) (.int j) H (.bl true) := fun H1 _ Q q => ⟨i, j, rfl, rfl, by
  show Q (V.bl (decide (i ≤ j))) H1
  rw [decide_eq_true h]
  exact q H1 (Ex.refl _)⟩
theorem filter_true {α : Type} (l : List α) : l.filter (fun _ => true) = l := List.filter_eq_self.mpr fun _ _ => rfl
theorem yes_ev {σ : L2.St} {H : Hp} : EvT tYes σ H true := fun H1 e Q q => q H1 (Ex.refl _)
end
end Pr
namespace K26
open PySem PySem.Spec PyProof.Rows L2 TM Pr Ep Nw
open Evl (Ex Ev EvT EvA EvL EvU EvO)
section
variable {P : Program} {w : World} {K : PySem.W.Frag} {mg : Str → Option Value} {base : Heap} {A : Adr}
theorem va1 {σ : L2.St} {H : Hp} {i : Nat} {a : V} (h1 : σ[i]? = some (some a)) : EvA (tCons (tVar i) tNil) σ H [a] := Evl.ea_cons (Evl.ev_var h1) Evl.ea_nil
theorem vb2 {σ : L2.St} {H : Hp} {i j : Nat} {a b : V} (h1 : σ[i]? = some (some a)) (h2 : σ[j]? = some (some b)) : EvA (tCons (tVar i) (tCons (tVar j) tNil)) σ H [a, b] := Evl.ea_cons (Evl.ev_var h1) (Evl.ea_cons (Evl.ev_var h2) Evl.ea_nil)
theorem vb3 {σ : L2.St} {H : Hp} {i j l : Nat} {a b c : V} (h1 : σ[i]? = some (some a)) (h2 : σ[j]? = some (some b)) (h3 : σ[l]? = some (some c)) : EvA (tCons (tVar i) (tCons (tVar j) (tCons (tVar l) tNil))) σ H [a, b, c] := Evl.ea_cons (Evl.ev_var h1) (Evl.ea_cons (Evl.ev_var h2) (Evl.ea_cons (Evl.ev_var h3) Evl.ea_nil))
theorem eqN {i j : Nat} : decide (vI i = vI j) = decide (i = j) := by
  by_cases c : i = j
  · subst c
    simp
  · rw [decide_eq_false c, decide_eq_false (fun z => c (by injection z with z; omega))]
theorem ok_is_among (T : Txt K mg A) : FnOk P w K mg base CX0 2 A.is_among A.is_among_fd ["around", "value"] spAmong := by
  refine T.F_is_among.ok sc_is_among (fun vs H Q E h => ?_) (fun cdv A' outer s H vs Q E hr h => ?_)
  · obtain ⟨r, N, n, rfl, _⟩ := h
    rfl
  · obtain ⟨r, N, n, rfl, hN, k⟩ := h
    refine ⟨_, (pss_one (ps_ret (pe_and (pe_call (ok_is_count T) (hr.mono (by decide)) (by rfl) T.m_is_count T.F_is_count.kp T.b_is_count .nil pass0 (pa_cons (pv 1) pa_nil)) (pe_one (show PE _ _ (tOp (rIn K false) _ _) from pe_cmpR op_in_seq (pv 1) (pv 0) (by rfl)))))), ?_⟩
    refine p_ret (P := Is (.bl (decide (n ∈ N)))) (evp_ev (Evl.ev_is (Evl.ev_andV (a := true) (b := decide (n ∈ N)) (ev_count (va1 rfl)) (fun _ => Evl.ev_is (Evl.ev_op (Evl.ev_var rfl) (Evl.ev_var rfl) (Evl.rv_isL (Evl.sq_of hN) rfl (flat_vIs _))) (by rw [inV_vIs]))) rfl)) fun v H1 e1 h => ?_
    subst h
    exact k H1 e1
theorem ok_is_pair_of (T : Txt K mg A) : FnOk P w K mg base CX0 3 A.is_pair_of A.is_pair_of_fd ["around", "origin", "target"] spPairOf := by
  refine T.F_is_pair_of.ok sc_is_pair_of (fun vs H Q E h => ?_) (fun cdv A' outer s H vs Q E hr h => ?_)
  · obtain ⟨r, N, o, t, rfl, _⟩ := h
    rfl
  · obtain ⟨r, N, o, t, rfl, hN, k⟩ := h
    refine ⟨_, (pss_one (ps_ret (pe_and (pe_call (ok_is_among T) (hr.mono (by decide)) (by rfl) T.m_is_among T.F_is_among.kp T.b_is_among .nil pass0 (pa_cons (pv 0) (pa_cons (pv 1) pa_nil))) (pe_and (pe_call (ok_is_among T) (hr.mono (by decide)) (by rfl) T.m_is_among T.F_is_among.kp T.b_is_among .nil pass0 (pa_cons (pv 0) (pa_cons (pv 2) pa_nil))) (pe_one (pe_cmpR op_ne (pv 1) (pv 2) (nomark _))))))), ?_⟩
    refine p_ret (P := Is (.bl (decide ((o, t) ∈ pairsN N)))) (evp_ev (Evl.ev_is (Evl.ev_andV (ev_among (vb2 rfl rfl) hN) (fun _ => Evl.ev_andV (ev_among (vb2 rfl rfl) hN) (fun _ => Evl.ev_op (Evl.ev_var rfl) (Evl.ev_var rfl) (Evl.rv_ne rfl)))) ?_)) fun v H1 e1 h => ?_
    · congr 1
      rw [eqN, Bool.eq_iff_iff]
      simp only [Bool.and_eq_true, decide_eq_true_eq, Bool.not_eq_true', decide_eq_false_iff_not]
      exact mem_pairs.symm
    · subst h
      exact k H1 e1
theorem ok_is_bound (T : Txt K mg A) : FnOk P w K mg base CX0 4 A.is_bound A.is_bound_fd ["around", "value"] spBoundOf := by
  refine T.F_is_bound.ok sc_is_bound (fun vs H Q E h => ?_) (fun cdv A' outer s H vs Q E hr h => ?_)
  · obtain ⟨r, N, v, b, rfl, _⟩ := h
    rfl
  · obtain ⟨r, N, v, b, rfl, hN, hb, G, k⟩ := h
    refine ⟨_, (pss_cons (ps_if (PW.pt (pw_or (pt_not (pt_val (show PE _ _ (tCB (rIsi K) _) from (pe_callB (id := "isinstance") call_isi (by rfl) T.n_isinstance (by decide +kernel) (pa_cons (pv 1) (pa_cons (pe_bltn (v := .ty "tuple") (by rfl) T.n_tuple (by decide +kernel) rfl) pa_nil)))))) (pw_or1 (pt_cmpR op_ne (show PE _ _ (tCB (rLenA K) _) from (pe_callB (id := "len") call_len (by rfl) T.n_len (by decide +kernel) (pa_cons (pv 1) pa_nil))) pe_int (nomark _))))) (pss_one (ps_ret pe_bl)) pss_nil) (pss_cons (ps_asg (pv 1) (show PG _ _ (gTup K 3 _) from pg_tup rfl (pgs_cons (pg_name (i := 2) sc_is_bound.nd rfl (Or.inl rfl)) (pgs_cons (pg_name (i := 3) sc_is_bound.nd rfl (Or.inl rfl)) (pgs_cons (pg_name (i := 4) sc_is_bound.nd rfl (Or.inl rfl)) pgs_nil))))) (pss_cons (ps_if (PW.pt (pw_or (pt_not (pt_val (pe_call (ok_is_count T) (hr.mono (by decide)) (by rfl) T.m_is_count T.F_is_count.kp T.b_is_count .nil pass0 (pa_cons (pv 4) pa_nil)))) (pw_or1 (pt_cmpR op_gt (pv 4) (pe_globI rfl T.g_MOST_OF_A_BOUND) (nomark _))))) (pss_one (ps_ret pe_bl)) pss_nil) (pss_cons (ps_if (pt_cmpR op_isN (pv 2) pe_non (nomark _)) (pss_one (ps_ret (pe_call (ok_is_among T) (hr.mono (by decide)) (by rfl) T.m_is_among T.F_is_among.kp T.b_is_among .nil pass0 (pa_cons (pv 0) (pa_cons (pv 3) pa_nil))))) pss_nil) (pss_cons (ps_if (pt_cmpR op_isN (pv 3) pe_non (nomark _)) (pss_one (ps_ret (pe_call (ok_is_among T) (hr.mono (by decide)) (by rfl) T.m_is_among T.F_is_among.kp T.b_is_among .nil pass0 (pa_cons (pv 0) (pa_cons (pv 2) pa_nil))))) pss_nil) (pss_one (ps_ret (pe_call (ok_is_pair_of T) (hr.mono (by decide)) (by rfl) T.m_is_pair_of T.F_is_pair_of.kp T.b_is_pair_of .nil pass0 (pa_cons (pv 0) (pa_cons (pv 2) (pa_cons (pv 3) pa_nil))))))))))), ?_⟩
    obtain ⟨t, rfl, ht⟩ := id hb
    refine p_skip (Evl.et_or (a := false) (b := false) (Evl.et_is (Evl.et_not (a := true) (Evl.et_B (ev_isTup (Evl.ev_var rfl) ht))) rfl) (fun _ => Evl.et_is (Evl.et_test (Evl.ev_op (ev_lenT (Evl.ev_var rfl) ht) Evl.ev_c (Evl.rv_ne rfl))) rfl)) fun H1 e1 => ?_
    refine p_asgG (evp_ev (Evl.ev_var rfl)) fun v H2 e2 hv => ?_
    subst hv
    have x2 := e1.trans e2
    refine go_3 (x2 _ _ ht) ?_
    obtain ⟨o, g, n⟩ := b
    have hm : n ≤ 6 := G.most
    show tSeq (tIfS _ _ tNext) _ _ ([some (.ref r), some (.ref t), some (oV o), some (oV g), some (vI n)]) H2
    refine p_skip (Evl.et_or (a := false) (b := false) (Evl.et_is (Evl.et_not (a := true) (Evl.et_B (ev_count (va1 rfl)))) rfl) (fun _ => Evl.et_is (Evl.et_test (Evl.ev_op (Evl.ev_var rfl) Evl.ev_c rv_I0P)) (decide_eq_false (by omega)))) fun H3 e3 => ?_
    have x3 := x2.trans e3
    have fin : ∀ {te : TE} {H4 : Hp} {b : Bool}, Ex H3 H4 → b = true → Ev te [some (.ref r), some (.ref t), some (oV o), some (oV g), some (vI n)] H4 (.bl b) → tRet te { nx := fun _ H' => Q .non H', rt := Q } [some (.ref r), some (.ref t), some (oV o), some (oV g), some (vI n)] H4 := fun e4 hb h => by
      subst hb
      exact p_ret (evp_ev h) fun v H5 e5 hv => by
        subst hv
        exact k H5 ((x3.trans e4).trans e5)
    refine Evl.q_when (b := o.isNone) (Evl.et_test (Evl.ev_op (Evl.ev_var rfl) Evl.ev_c rv_isN)) (fun ho H4 e4 => ?_) (fun ho H4 e4 => ?_)
    · cases o with
      | some o => cases ho
      | none =>
        cases g with
        | none => exact absurd G.some_ (by simp)
        | some g => exact fin e4 (decide_eq_true (G.tg g rfl)) (ev_among (N := N) (n := g) (vb2 rfl rfl) (hN.ex (x3.trans e4)))
    · cases o with
      | none => cases ho
      | some o =>
        refine Evl.q_when (b := g.isNone) (Evl.et_test (Evl.ev_op (Evl.ev_var rfl) Evl.ev_c rv_isN)) (fun hg H5 e5 => ?_) (fun hg H5 e5 => ?_)
        · cases g with
          | some g => cases hg
          | none => exact fin (e4.trans e5) (decide_eq_true (G.or_ o rfl)) (ev_among (N := N) (n := o) (vb2 rfl rfl) (hN.ex (x3.trans (e4.trans e5))))
        · cases g with
          | none => cases hg
          | some g => exact fin (e4.trans e5) (decide_eq_true (mem_pairs.mpr ⟨G.or_ o rfl, G.tg g rfl, G.ne o g rfl rfl⟩)) (ev_pairOf (N := N) (o := o) (t := g) (vb3 rfl rfl rfl) (hN.ex (x3.trans (e4.trans e5))))
end
end K26
set_option Elab.async false
set_option linter.all false
set_option maxRecDepth 100000
set_option maxHeartbeats 4000000
/-! a dict comprehension whose keys are tuples -/
namespace DC
open PySem PySem.Spec PyProof.Rows L2
section
variable {X : Cx}
theorem set_tup {pins : List (Addr × Obj)} {σ : L2.St} {G : Hp} {s : Shared} {E : Value → Shared → Prop} {Q : Unit → Shared → Prop} {D b : Addr} {kvs : List (List Key × V)} {k : List Key} {v : V} {r : Value}
    (hu : X.A.units + 1 < cLine) (I : Inv X pins σ G s) (eD : G D = some (.dT kvs)) (eb : G b = some (.tup (k.map kV))) (few : kvs.length < sizeLine) (rv : RelV v r)
    (go : ∀ t, Inv X pins σ (upd G D (.dT (putK kvs k v))) t → Q () t) : wpAny (model X.prog X.w) X.A (dictSet D (.ref b) r) Q E s := by
  obtain ⟨z, off, es, pr, isd⟩ := dt_of I.hok eD
  have lenA : es.length ≤ sizeLine := (Paired.length pr) ▸ z
  have lenB : (putK kvs k v).length ≤ sizeLine := Nat.le_trans (length_putK kvs k v) few
  refine wpAny_dictSet_heap (hsz := lenA) (Nat.lt_of_succ_lt hu) (key_of I.hok eb) isd fun h2 isd2 rest => go _ ?_
  obtain ⟨o2, ent, used, at2, b2, b3, b4, b5⟩ := isd2
  have nb : b ≠ D := ne_of eb eD fun y => nomatch y
  refine d_write I (eD ▸ True.intro) rest ⟨o2, at2⟩ ⟨lenB, off, _, (pr.put k eb rv).keeps fun c ys ec => ?_, o2, ent, used, at2, b2, b3, b4, b5.2⟩
  rw [upd_ne (ne_of ec eD fun y => nomatch y)]
  exact ec
/-- what one turn of the walk asks: D is the dict that is made -/
def turnT (D : Addr) (g : TG) (tt : TT) (tk tv : TE) (vs : List Nat) (σ : L2.St) (Nx : Hp → Prop) (x : V) (Hx : Hp) : Prop :=
  g x (wipe σ vs) Hx fun σg Hg => wipe σg vs = wipe σ vs ∧ tt σg Hg fun ok Ht => if ok = true then tk σg Ht fun y Hk => tv σg Hk fun z Hv =>
    ∃ kvs k b, y = .ref b ∧ Hv b = some (.tup (k.map kV)) ∧ Hv D = some (.dT kvs) ∧ kvs.length < sizeLine ∧ Nx (upd Hv D (.dT (putK kvs k z))) else Nx Ht
def tDcT (wi : TI) (g : TG) (tt : TT) (tk tv : TE) (vs : List Nat) : TE := fun σ H Q => wi σ H fun J Ha => ∀ D, Ha D = none → ∃ W : Nat → Nat → Hp → Prop, (∃ m, W 0 m (upd Ha D (.dT []))) ∧ ∀ i m Hi, W i m Hi →
  (J.stop i Hi ∧ Q (.ref D) Hi) ∨ (J.go i Hi ∧ ∃ Nx : Hp → Prop, (∀ Hn, Nx Hn → ∃ m2, m2 < m ∧ W (i + 1) m2 Hn) ∧ ∀ x Hx, J.yld i Hi x Hx → turnT D g tt tk tv vs σ Nx x Hx)
/-- the walk, in the block's own context -/
theorem loopT {sb : Shared} {Hb : Hp} {scope : Scope} {ce : Env} {fp : List Addr} {kx vx tg iter : Expr} {ifs : List Expr} {pos : Pos} {g : TG} {tt : TT} {tk tv : TE} {vs : List Nat} {σ : L2.St} {J : It} {it D : Addr} {tn : Nat → Heap → Prop} {W : Nat → Nat → Hp → Prop} {Qd : Hp → Prop} {R : Result → Shared → Prop} {m0 : Nat} {s0 : Shared}
    (hu : X.A.units + 1 < cLine) (hc : X.calm = true) (T : Turn X.prog X.w X.K tg J fp it tn) (pg : PG (X.blk sb Hb scope ce fp) tg g) (pt : PTs (X.blk sb Hb scope ce fp) ifs tt) (pk : PE (X.blk sb Hb scope ce fp) kx tk) (pv : PE (X.blk sb Hb scope ce fp) vx tv)
    (turn : ∀ i m Hi, W i m Hi → (J.stop i Hi ∧ Qd Hi) ∨ (J.go i Hi ∧ ∃ Nx : Hp → Prop, (∀ Hn, Nx Hn → ∃ m2, m2 < m ∧ W (i + 1) m2 Hn) ∧ ∀ x Hx, J.yld i Hi x Hx → turnT D g tt tk tv vs σ Nx x Hx))
    (out : ∀ Hs ss, Inv (X.blk sb Hb scope ce fp) [] (wipe σ vs) Hs ss → Qd Hs → R (.ok .next) ss)
    (I0 : Inv (X.blk sb Hb scope ce fp) [] (wipe σ vs) Hb s0) (t0 : tn 0 s0.heap) (n0 : ∀ b ∈ fp, Hb b = none) (w0 : W 0 m0 Hb) :
    codeAny (model X.prog X.w) X.A (.compLoop (.DictComp kx vx [⟨tg, iter, ifs, 0⟩] scope pos) 0 (.ref it) (.ref D) ce) R s0 := by
  have own : ∀ {σ' : L2.St} {H' : Hp} {s' : Shared}, Inv (X.blk sb Hb scope ce fp) [] σ' H' s' → (∀ b ∈ fp, H' b = none) → ∀ b ∈ fp, FpOk (X.blk sb Hb scope ce fp) [] H' b := fun J' off b m =>
    ⟨off b m, (J'.ok.exf b m).1, J'.ok.exfs b m, .inl m, fun y c e => (J'.ok.exf b m).2 y c e, fun p m => nomatch (show p ∈ ([] : List (Addr × Obj)) from (List.append_nil [] ▸ m : p ∈ ([] : List (Addr × Obj))))⟩
  refine compLoop_anyD (fun n t => ∃ i Hi, Inv (X.blk sb Hb scope ce fp) [] (wipe σ vs) Hi t ∧ tn i t.heap ∧ (∀ b ∈ fp, Hi b = none) ∧ W i n Hi) ?_ m0 ⟨0, Hb, I0, t0, n0, w0⟩
  intro n s1 ⟨i, H1, I1, t1, n1, w1⟩
  rcases turn i n H1 w1 with ⟨stop, qd⟩ | ⟨go, Nx, less, step⟩
  · refine thnF (T.done (X.blk sb Hb scope ce fp) rfl rfl rfl hc i [] s1 _ H1 (fun _ _ => False) I1 (own I1 n1) t1 stop) fun r s2 h2 => ?_
    rw [h2.1]
    exact out _ _ h2.2 qd
  refine thnF (T.item (X.blk sb Hb scope ce fp) rfl rfl rfl hc i [] s1 _ H1 (fun _ _ => False) I1 (own I1 n1) t1 go) fun r s2 ⟨u, er, h2⟩ => ?_
  rw [er]
  refine thnF h2 fun _ s3 ⟨x, H3, I3, r3, y3, t3, n3⟩ => ?_
  -- the iterator's own things stay as they are while the turn runs
  have P3 := I3.pinned (own I3 n3) (T.obj _ _ t3)
  refine thnF (pg.run _ s3 _ H3 x u _ P3 r3 (step x H3 y3)) fun _ s4 ⟨σ4, H4, I4, e4, q4⟩ => ?_
  refine thnF (pt.run _ s4 σ4 H4 _ I4 q4) fun ok s5 ⟨H5, I5, q5⟩ => ?_
  have len : (wipe σ vs).length = σ4.length := by
    rw [← e4]
    exact wipe_length _ _
  have next : ∀ {s' : Shared} {H' : Hp}, Inv (X.blk sb Hb scope ce fp) ([] ++ pinsAt fp s3.heap) σ4 H' s' → Nx H' → ∃ m, m < n ∧ ∃ j Hj, Inv (X.blk sb Hb scope ce fp) [] (wipe σ vs) Hj s' ∧ tn j s'.heap ∧ (∀ b ∈ fp, Hj b = none) ∧ W j m Hj := fun {s' H'} I' nx => by
    obtain ⟨m2, lt, w2⟩ := less H' nx
    have stay : ∀ b ∈ fp, ∀ o, s3.heap.get? b = some o → s'.heap.get? b = some o ∧ H' b = none := fun b m o e => by
      have z := I'.pin (b, o) (List.mem_append_right _ (List.mem_append_right _ (mem_pinsAt m e)))
      exact ⟨z.1, z.2.1⟩
    refine ⟨m2, lt, i + 1, H', I'.unpinned.weak len fun j v e => ?_, T.keep _ _ _ t3 fun b m o e => (stay b m o e).1, fun b m => ?_, w2⟩
    · rw [← e4] at e
      exact (wipe_some e).1
    · exact (T.obj _ _ t3 b m).elim fun o e => (stay b m o e.1).2
  cases ok with
  | false =>
    rw [if_neg (by decide)] at q5 ⊢
    exact next I5 q5
  | true =>
    rw [if_pos rfl] at q5 ⊢
    refine thnF (pk.run _ s5 σ4 H5 _ I5 q5) fun a s6 ⟨y, H6, I6, r6, q6⟩ => thnF (pv.run _ s6 σ4 H6 _ I6 q6) fun c s7 ⟨z, H7, I7, r7, kvs, k, b, ey, eb, eD, few, nx⟩ => ?_
    rw [ey] at r6
    cases (show a = Value.ref b from r6)
    exact set_tup (X := X.blk sb Hb scope ce fp) hu I7 eD eb few r7 fun s8 I8 => next I8 nx
theorem pe_dcT {kx vx tg iter : Expr} {ifs : List Expr} {scope : Scope} {own : List (Str × Nat)} {pos : Pos} {wi : TI} {g : TG} {tt : TT} {tk tv : TE} (hu : X.A.units + 1 < cLine) (hc : X.calm = true) (hN : X.N.Nodup) (hi : PI X tg iter wi) (bo : BlkOk X.N X.env.scope scope own)
    (hg : ∀ s H C cl fp, PG (X.blk s H scope (compEnvC scope cl C X.env) fp) tg g) (ht : ∀ s H C cl fp, PTs (X.blk s H scope (compEnvC scope cl C X.env) fp) ifs tt)
    (hk : ∀ s H C cl fp, PE (X.blk s H scope (compEnvC scope cl C X.env) fp) kx tk) (he : ∀ s H C cl fp, PE (X.blk s H scope (compEnvC scope cl C X.env) fp) vx tv) (hs : ∀ x, foldedSetIterable iter X.env x = pure x := by intro _; rfl) :
    PE X (.DictComp kx vx [⟨tg, iter, ifs, 0⟩] scope pos) (tDcT wi g tt tk tv (own.map (·.2))) := ⟨fun pins s σ H Q I h => by
  rw [arm_eval_DictComp]
  have seen : ∀ y ∈ scope.names, y.2 = .free → ∃ c, X.env.cells.lookup y.1 = some c := fun y hy e =>
    I.ok.has _ <| (bo.free y hy e).elim (fun k => .inl k) fun k => .inr k
  refine wpAny_comprehension_free rfl hs (closure_ok seen) bo.kind (fun y hy e => by rw [bo.uniq y hy, e]) (thn (hi.run pins s σ H _ I h) fun _ _ hx => thn hx fun _ sa ha => ?_)
  obtain ⟨it, fp, tn, J, Ha, rfl, Ia, T, ta, fa, q⟩ := ha
  refine wpAny_newObj_type (newEnv_comp ?_)
  have newD : Ha sa.heap.objs.size = none := Ia.hok.fresh (Nat.le_refl _)
  obtain ⟨W, ⟨m0, w0⟩, turn⟩ := q _ newD
  have below : ∀ b ∈ fp, b < sa.heap.objs.size := fun b hb => (T.obj _ _ ta b hb).elim fun o e => Heap.lt_size e.1
  have big := Heap.size_push sa.heap { cls := .type "dict", data := .dict #[] }
  have kept : ∀ b o, sa.heap.get? b = some o → (sa.heap.push { cls := .type "dict", data := .dict #[] }).get? b = some o := fun b o e => Heap.get?_push_of_some _ e
  have Ib : Inv X pins σ (upd Ha sa.heap.objs.size (.dT [])) { sa with heap := sa.heap.push { cls := .type "dict", data := .dict #[] } } := Ia.laid (t' := sa.toks) kept (Nat.le_refl _) (dt_empty sa.heap Ia.big)
  have fb : ∀ b ∈ fp, FpOk X pins (upd Ha sa.heap.objs.size (.dT [])) b ∧ b < (sa.heap.push { cls := .type "dict", data := .dict #[] }).objs.size := fun b m =>
    ⟨⟨(upd_ne (Nat.ne_of_lt (below b m))).trans (fa b m).1, (fa b m).2⟩, by rw [big]; exact Nat.lt_succ_of_lt (below b m)⟩
  have tb := T.keep _ _ _ ta fun b _ o e => kept b o e
  have Ic := block_start Ib bo hN fb
  have td := T.keep _ _ _ tb fun b _ o e => pushCells_keeps scope.names _ b o (Heap.get?_push_of_some { cls := .type "dict", data := .dict #[] } e)
  have walk := loopT (R := compPost (model X.prog X.w) X.A X.xe none (fun v t => ∃ x H1, Inv X pins σ H1 t ∧ RelV x v ∧ Q x H1) (.ref sa.heap.objs.size) (sa.heap.push { cls := .type "dict", data := .dict #[] }).objs.size) (kx := kx) (vx := vx) (iter := iter) (pos := pos) hu hc T (hg _ _ _ _ fp) (ht _ _ _ _ fp) (hk _ _ _ _ fp) (he _ _ _ _ fp) turn (fun Hs ss Is qd => ?_) Ic td (fun b m => (fb b m).1.1) w0
  · exact codeAny_compStart_dict walk (T.self X.A 0 _ _ _ td walk)
  · have If : Inv X pins σ Hs ss := Ib.call' (ch := fp) Is.os Is.base Is.hok Is.bare fun b m => ⟨(fb b m).1.2.2.2.1, (fb b m).1.2.1, (fb b m).1.2.2.2.2.1, (fb b m).1.2.2.2.2.2⟩
    obtain ⟨names, at_, _⟩ := Is.loc
    obtain ⟨f0, f1, f2, f3, f4, f5⟩ := Ib.fpOk (H' := Hs) (Nat.le_refl _) Is.free
    exact ⟨names, at_, fun h2 same => ⟨.ref sa.heap.objs.size, Hs, If.turned (t' := ss.toks) (fun b o nb e => (same.2 b nb).trans e) f0 f1 f3 f4 f5, rfl, qd⟩⟩⟩
end
end DC
set_option Elab.async false
set_option linter.all false
set_option maxRecDepth 100000
set_option maxHeartbeats 4000000
/-! dicts whose keys are tuples: made by a comprehension, read by get -/
namespace Pr
open PySem PySem.Spec PyProof.Rows L2 TM Ep Nw
open Evl (Ex Ev EvT EvA EvL EvU EvO)
section
variable {K : PySem.W.Frag} {σ : L2.St} {H : Hp} {te ta tb tc : TE}
theorem valV_none {κ : Type} [DecidableEq κ] {kvs : List (κ × V)} {k : κ} (h : k ∉ kvs.map (·.1)) : valV kvs k = none := by
  cases e : valV kvs k with
  | none => rfl
  | some z => exact absurd (valV_in e) h
/-- {k: v for .. in xs} -/
theorem dcTL {α : Type} [Inhabited α] {R : Rep α} (mR : Mono R) {wi : TI} {g : TG} {tk tv : TE} {vs : List Nat} {ls : List V} {L : List α} (s : Src wi σ H ls.length (fun i v => ls[i]? = some v)) (hp : Paired (R H) ls L) (hn : L.length ≤ 50000) (st : α → V → L2.St) (hw : ∀ a x, wipe (st a x) vs = wipe σ vs)
    (hg : ∀ a x H1 Q, a ∈ L → Ex H H1 → R H1 x a → Q (st a x) H1 → g x (wipe σ vs) H1 Q) (kf : α → List Key) (vf : α → V) (nd : (L.map kf).Nodup)
    (hk : ∀ a x H1, a ∈ L → Ex H H1 → R H1 x a → EvP tk (st a x) H1 (fun v _ Hb => ∃ b, v = .ref b ∧ Hb b = some (.tup ((kf a).map kV))))
    (he : ∀ a x H1, a ∈ L → Ex H H1 → R H1 x a → Ev tv (st a x) H1 (vf a)) :
    EvP (DC.tDcT wi g tYes tk tv vs) σ H (fun v H1 H2 => ∃ p, v = .ref p ∧ H1 p = none ∧ H2 p = some (.dT (L.map fun a => (kf a, vf a)))) := fun H0 e0 Q q => by
  have hl : ls.length = L.length := PySem.Paired.length hp
  refine s H0 e0 _ fun J H1 G e1 hG hW D hD => ?_
  refine ⟨fun i m H' => m = ls.length - i ∧ i ≤ ls.length ∧ Ex H1 H' ∧ H' D = some (.dT ((L.take i).map fun a => (kf a, vf a))), ⟨ls.length, by simp, Nat.zero_le _, Ex.new hD, upd_same⟩, ?_⟩
  rintro i m Ha ⟨rfl, hin, a, c⟩
  by_cases hi : i < ls.length
  · refine .inr ⟨hW.goes i Ha hi (hG _ a), fun H' => Ex H1 H' ∧ H' D = some (.dT ((L.take (i + 1)).map fun a => (kf a, vf a))), fun H' p' => ⟨ls.length - (i + 1), by omega, rfl, hi, p'⟩, fun x Hb y => ?_⟩
    obtain ⟨rfl, hX⟩ := hW.yields i Ha x Hb hi (hG _ a) y
    have eA : Ex H Hb := (e0.trans e1).trans a
    obtain ⟨z, hz, rz⟩ := pix hp hX
    have mz := List.mem_of_getElem? hz
    have rz' := mR _ _ _ _ eA rz
    refine hg z x Hb _ mz eA rz' ⟨hw z x, yes_go ?_⟩
    dsimp only
    rw [if_pos rfl]
    refine hk z x Hb mz eA rz' Hb (Ex.refl _) _ fun u Hc ec ⟨b, hu, hb⟩ => ?_
    refine he z x Hb mz eA rz' Hc ec _ fun Hd ed => ?_
    have tk : L.take (i + 1) = L.take i ++ [z] := by rw [List.take_succ, hz]; rfl
    have nk : valV ((L.take i).map fun a => (kf a, vf a)) (kf z) = none := valV_none fun h => by
      rw [List.map_map] at h
      have h2 : kf z ∈ (L.take i).map kf := h
      have sub : (L.take (i + 1)).map kf = (L.take i).map kf ++ [kf z] := by rw [tk, List.map_append]; rfl
      have nd2 : ((L.take (i + 1)).map kf).Nodup := nd.sublist ((List.take_sublist _ _).map _)
      rw [sub] at nd2
      exact (List.nodup_append.mp nd2).2.2 _ h2 _ (by simp) rfl
    refine ⟨_, kf z, b, hu, ed _ _ hb, ed _ _ (ec _ _ c), ?_, Ex.mut ((a.trans ec).trans ed) hD, ?_⟩
    · rw [List.length_map, List.length_take]
      exact Nat.lt_of_le_of_lt (Nat.min_le_right _ _) (Nat.lt_of_le_of_lt hn (by decide))
    · rw [upd_same, putK_new _ nk, tk, List.map_append]
      rfl
  · have e : i = ls.length := by omega
    subst e
    rw [hl, List.take_length] at c
    exact .inl ⟨hW.stops Ha (hG _ a), q (.ref D) Ha (e1.trans a) ⟨D, rfl, Evl.fresh_back e1 hD, c⟩⟩
/-- d.get(k, x) -/
theorem ev_dgetT {d : Addr} {kvs : List (List Key × V)} {k : List Key} {x : V} (h1 : Ev ta σ H (.ref d)) (hd : H d = some (.dT kvs)) (h2 : EvP tb σ H (fun v _ Hb => ∃ b, v = .ref b ∧ Hb b = some (.tup (k.map kV)))) (h3 : Ev tc σ H x) : Ev (tDGet2 ta tb tc) σ H ((valV kvs k).getD x) := fun H1 e Q q =>
  h1 H1 e _ fun H2 e2 => ⟨d, rfl, .inr ⟨kvs, .inl ((e.trans e2) _ _ hd)⟩, h2 H2 (e.trans e2) _ fun u H3 e3 ⟨b, hu, hb⟩ => h3 H3 ((e.trans e2).trans e3) _ fun H4 e4 =>
    ⟨valV kvs k, hu ▸ DGet.t ((((e.trans e2).trans e3).trans e4) _ _ hd) (e4 _ _ hb), q H4 ((e2.trans e3).trans e4)⟩⟩
def kPr (e : Ent) : List Key := [.inl (e.1 : Int), .inl (e.2.1 : Int)]
theorem kPr_inj {e f : Ent} (h : kPr e = kPr f) : e.1 = f.1 ∧ e.2.1 = f.2.1 := by
  unfold kPr at h
  simp only [List.cons.injEq, Sum.inl.injEq, and_true] at h
  omega
theorem kPr_nodup : ∀ {m : Ld}, m.Pairwise lt2 → (m.map kPr).Nodup
  | [], _ => List.nodup_nil
  | e :: m, h => by
    obtain ⟨h1, h2⟩ := List.pairwise_cons.mp h
    refine List.nodup_cons.mpr ⟨fun c => ?_, kPr_nodup h2⟩
    obtain ⟨f, hf, ef⟩ := List.mem_map.mp c
    have := h1 f hf
    have := kPr_inj ef
    unfold lt2 at *
    omega
theorem get_carts (o t : Nat) : ∀ {m : Ld}, m.Pairwise lt2 → (valV (m.map fun e => (kPr e, vI e.2.2)) (kPr (o, t, 0))).getD (.int 0) = vI (carts m (some o) (some t))
  | [], _ => rfl
  | e :: m, h => by
    obtain ⟨h1, h2⟩ := List.pairwise_cons.mp h
    have ih := get_carts o t h2
    rw [List.map_cons]
    by_cases c : e.1 = o ∧ e.2.1 = t
    · have ek : kPr e = kPr (o, t, 0) := by unfold kPr; rw [c.1, c.2]
      rw [valV_pos ek, carts_cons, if_pos (by simp [okO, c.1, c.2])]
      have z : carts m (some o) (some t) = 0 := by
        clear ih
        induction m with
        | nil => rfl
        | cons f m ih =>
          have l1 := h1 f List.mem_cons_self
          rw [carts_cons, if_neg, ih (List.pairwise_cons.mpr ⟨fun x hx => h1 x (List.mem_cons_of_mem _ hx), (List.pairwise_cons.mp h2).2⟩) (fun x hx => h1 x (List.mem_cons_of_mem _ hx)) (List.pairwise_cons.mp h2).2]
          simp only [okO, Bool.and_eq_true, decide_eq_true_eq]
          unfold lt2 at l1
          omega
      rw [z]
      rfl
    · have ek : ¬ kPr e = kPr (o, t, 0) := fun z => c (kPr_inj z)
      rw [valV_neg ek, ih, carts_cons, if_neg, Nat.zero_add]
      simp only [okO, Bool.and_eq_true, decide_eq_true_eq]
      omega
theorem evp_key2 {o t : Nat} (h1 : Ev ta σ H (vI o)) (h2 : Ev tb σ H (vI t)) : EvP (tTup (tCons ta (tCons tb tNil))) σ H (fun v _ Hb => ∃ b, v = .ref b ∧ Hb b = some (.tup ((kPr (o, t, 0)).map kV))) := fun H1 e Q q =>
  Evl.eu_tup (vs := [vI o, vI t]) (Evl.ea_cons h1 (Evl.ea_cons h2 Evl.ea_nil)) (by show 2 ≤ 100000; decide) H1 e Q fun p H2 _ e2 k => q _ H2 e2 ⟨p, rfl, k⟩
end
end Pr

set_option Elab.async false
set_option linter.all false
set_option maxRecDepth 100000
set_option maxHeartbeats 4000000
namespace Pr
open PySem PySem.Spec PyProof.Rows L2 TM Ep Nw
open Evl (Ex Ev EvT EvA EvL EvU EvO)
def NR : Rep Nat := fun _ v n => v = vI n
theorem moN : Mono NR := fun _ _ _ _ _ h => h
theorem paired_N {H : Hp} : ∀ N : List Nat, Paired (NR H) (vIs N) N
  | [] => .nil
  | n :: N => .cons rfl (paired_N N)
theorem newR_pair {K : PySem.W.Frag} {σ : L2.St} {H : Hp} {ta tb : TE} {o t : Nat} (h1 : Ev ta σ H (vI o)) (h2 : Ev tb σ H (vI t)) : EvP (tTup (tCons ta (tCons tb tNil))) σ H (NewR PrR H (o, t)) :=
  (evp_tupN (xs := [vI o, vI t]) (Evl.ea_cons h1 (Evl.ea_cons h2 Evl.ea_nil)) (by show 2 ≤ 100000; decide)).imp fun v Ha Hb _ _ ⟨p, Hn, r, m, k, _⟩ => ⟨Hn, m, p, r, k⟩
theorem evp_tup3 {σ : L2.St} {H : Hp} {ta tb tc : TE} {o t n : Nat} (h1 : Ev ta σ H (vI o)) (h2 : Ev tb σ H (vI t)) (h3 : Ev tc σ H (vI n)) : EvP (tTup (tCons ta (tCons tb (tCons tc tNil)))) σ H (NewR EntR H (o, t, n)) :=
  (evp_tupN (xs := [vI o, vI t, vI n]) (Evl.ea_cons h1 (Evl.ea_cons h2 (Evl.ea_cons h3 Evl.ea_nil))) (by show 3 ≤ 100000; decide)).imp fun v Ha Hb _ _ ⟨p, Hn, r, m, k, _⟩ => ⟨Hn, m, p, r, k⟩
/-- [e], e new -/
theorem evp_lst1 {β : Type} {S : Rep β} (mo : Mono S) {σ : L2.St} {H : Hp} {te : TE} {b : β} (h : EvP te σ H (NewR S H b)) : EvP (tLst (tCons te tNil)) σ H (NewLst S H [b]) := fun H1 e Q q =>
  h H1 e _ fun v H2 e2 ⟨Hn, m, s⟩ => ⟨(by show 1 ≤ sizeLine; decide), fun c hc => by
    have f1 := Evl.fresh_back e2 hc
    obtain ⟨m2, ex2⟩ := m.put (o := .lst [v]) hc f1
    exact q _ _ (e2.trans (Ex.new hc)) ⟨c, [v], _, rfl, f1, m2, upd_same, .cons (mo _ _ _ _ ex2 s) .nil⟩⟩
theorem newLst_at {β : Type} {S : Rep β} (mo : Mono S) {H0 H1 H2 : Hp} {l : List β} {v : V} (h : NewLst S H0 l v H1 H2) : LstOf S H2 v l := by
  obtain ⟨p, vs, Hn, r, _, m, k, hp⟩ := h
  exact ⟨p, vs, r, (m _ _ k).1, mo.paired m.ex hp⟩
theorem all_true {α : Type} (l : List α) : (l.map fun _ => true).all id = true := by
  rw [List.all_eq_true]
  intro x hx
  obtain ⟨_, _, e⟩ := List.mem_map.mp hx
  rw [← e]
  rfl
theorem all_map {α : Type} (f : α → Bool) (l : List α) : (l.map f).all id = l.all f := by rw [List.all_map]; rfl
theorem any_map {α : Type} (f : α → Bool) (l : List α) : (l.map f).any id = l.any f := by rw [List.any_map]; rfl
theorem map_bl {α : Type} (l : List α) (f : α → Bool) : ((l.filter fun _ => true).map fun a => V.bl (f a)) = (l.map f).map V.bl := by rw [filter_true, List.map_map]; rfl
section
variable {K : PySem.W.Frag} {σ : L2.St} {H : Hp} {te ta tb tc : TE} {ts : TA}
/-- all([te for x in xs]), xs a list or a tuple of such -/
theorem ev_allS {α : Type} [Inhabited α] {R : Rep α} (mR : Mono R) {tl : TE} {g : TG} {vs : List Nat} {v : V} {L : List α} (hv : Ev tl σ H v) (hs : SeqR R H v L) (hn : L.length ≤ 50000) (st : α → V → L2.St) (hw : ∀ a x, wipe (st a x) vs = wipe σ vs)
    (hg : ∀ a x H1 Q, a ∈ L → Ex H H1 → R H1 x a → Q (st a x) H1 → g x (wipe σ vs) H1 Q) (f : α → Bool) (he : ∀ a x, a ∈ L → R H x a → Ev te (st a x) H (.bl (f a))) : Ev (tCB (rAll K) (tCons (tLc (Ei.eI (iList K tl) (iTup K tl)) g tYes te vs) tNil)) σ H (.bl (L.all f)) := by
  obtain ⟨p, ls, rfl, hx, hp⟩ := hs
  have := ev_all (K := K) (bs := L.map f) (te := tLc (Ei.eI (iList K tl) (iTup K tl)) g tYes te vs) (σ := σ) (H := H) (by
    rw [← map_bl]
    exact lcW mR (src_seq (v := .ref p) hv hx) hp hn st hw (fun a x H1 Q ha e _ r q => hg a x H1 Q ha e r q) (fun _ => true) (fun _ _ _ _ => yes_ev) (fun a => .bl (f a)) (fun a x ha r _ => he a x ha r))
  rw [all_map] at this
  exact this
theorem ev_anyS {α : Type} [Inhabited α] {R : Rep α} (mR : Mono R) {tl : TE} {g : TG} {vs : List Nat} {v : V} {L : List α} (hv : Ev tl σ H v) (hs : SeqR R H v L) (hn : L.length ≤ 50000) (st : α → V → L2.St) (hw : ∀ a x, wipe (st a x) vs = wipe σ vs)
    (hg : ∀ a x H1 Q, a ∈ L → Ex H H1 → R H1 x a → Q (st a x) H1 → g x (wipe σ vs) H1 Q) (f : α → Bool) (he : ∀ a x, a ∈ L → R H x a → Ev te (st a x) H (.bl (f a))) : Ev (tCB (rAny K) (tCons (tLc (Ei.eI (iList K tl) (iTup K tl)) g tYes te vs) tNil)) σ H (.bl (L.any f)) := by
  obtain ⟨p, ls, rfl, hx, hp⟩ := hs
  have := ev_any (K := K) (bs := L.map f) (te := tLc (Ei.eI (iList K tl) (iTup K tl)) g tYes te vs) (σ := σ) (H := H) (by
    rw [← map_bl]
    exact lcW mR (src_seq (v := .ref p) hv hx) hp hn st hw (fun a x H1 Q ha e _ r q => hg a x H1 Q ha e r q) (fun _ => true) (fun _ _ _ _ => yes_ev) (fun a => .bl (f a)) (fun a x ha r _ => he a x ha r))
  rw [any_map] at this
  exact this
/-- all([te for x in xs]), xs told anew -/
theorem ev_allN {α : Type} [Inhabited α] {R : Rep α} (mR : Mono R) {tl : TE} {g : TG} {vs : List Nat} {L : List α} (hv : EvP tl σ H (NewLst R H L)) (hn : L.length ≤ 50000) (st : α → V → L2.St) (hw : ∀ a x, wipe (st a x) vs = wipe σ vs)
    (hg : ∀ a x H1 Q, a ∈ L → Ex H H1 → R H1 x a → Q (st a x) H1 → g x (wipe σ vs) H1 Q) (f : α → Bool) (he : ∀ a x H1, a ∈ L → Ex H H1 → R H1 x a → Ev te (st a x) H1 (.bl (f a))) : Ev (tCB (rAll K) (tCons (tLc (iList K tl) g tYes te vs) tNil)) σ H (.bl (L.all f)) := by
  have key : EvP (tLc (iList K tl) g tYes te vs) σ H (NewL ((L.map f).map V.bl)) := fun H1 e Q q =>
    hv H1 e _ fun v H2 e2 h => by
      obtain ⟨p, ls, rfl, hp2, hp⟩ := newLst_at mR h
      have x2 := e.trans e2
      have go := lcW (σ := σ) (H := H2) (vs := vs) (g := g) (tt := tYes) (te := te) mR (src_list (K := K) (tl := tC (.ref p)) Evl.ev_c (Evl.sq_of hp2)) hp hn st hw (fun a x H3 Q ha e3 _ r k => hg a x H3 Q ha (x2.trans e3) r k) (fun _ => true) (fun _ _ _ _ => yes_ev) (fun a => .bl (f a)) (fun a x ha r _ => he a x H2 ha x2 r)
      exact go H2 (Ex.refl _) Q fun z H3 e3 hz => q z H3 (e2.trans e3) (by
        rw [map_bl] at hz
        exact newL_back e2 hz)
  have := ev_all (K := K) key
  rw [all_map] at this
  exact this
end
end Pr
namespace K26
open PySem PySem.Spec PyProof.Rows L2 TM Pr Ep Nw
open Evl (Ex Ev EvT EvA EvL EvU EvO)
section
variable {P : Program} {w : World} {K : PySem.W.Frag} {mg : Str → Option Value} {base : Heap} {A : Adr}
theorem ok_pairs_of (T : Txt K mg A) : FnOk P w K mg base CX0 1 A.pairs_of A.pairs_of_fd ["around"] spPairsOf := by
  refine T.F_pairs_of.ok sc_pairs_of (fun vs H Q E h => ?_) (fun cdv A' outer s H vs Q E hr h => ?_)
  · obtain ⟨B, r, N, _, rfl, _⟩ := h
    rfl
  · obtain ⟨B, r, N, eB, rfl, hN, hl, k⟩ := h
    refine ⟨_, (pss_one (ps_ret (pe_lc2 (own := [("origin", 1), ("target", 2)]) (vs1 := [2]) rfl sc_pairs_of.nd (show PI _ _ _ (iList K _) from pi_list (pv 0)) (blkOk_by (N := n_pairs_of) (sc := defScope s_pairs_of) (by decide +kernel)) (by decide) (fun _ _ _ _ _ => (pg_name (i := 1) sc_pairs_of.nd rfl (Or.inl rfl))) (fun _ _ _ _ _ => pts_nil) (fun _ _ _ _ _ => (show PI _ _ _ (iList K _) from pi_list (pv 0))) (fun _ _ _ _ _ => (pg_name (i := 2) sc_pairs_of.nd rfl (Or.inl rfl))) (fun _ _ _ _ _ => (pts_one (pt_cmpR op_ne (pv 1) (pv 2) (nomark _)))) (fun _ _ _ _ _ => (pe_tup (pa_cons (pv 1) (pa_cons (pv 2) pa_nil))))))), ?_⟩
    refine p_ret (P := NewLst PrR B (pairsN N)) (EvP.mono eB ?_) fun v H1 e1 h => k v H1 e1 h
    refine lcG2 (R := NR) (R' := NR) (S := PrR) moN moN moP (fun _ => N) (src_list (K := K) (Evl.ev_var rfl) (Evl.sq_of hN)) (paired_N N) 100 (by have := Nat.mul_le_mul_right 100 hl; omega) (fun _ _ => hl) (fun a x => [some (.ref r), some x, none]) (fun _ _ => rfl) (fun _ _ _ _ _ _ _ q => q)
      (fun a x H1 _ e _ => ⟨vIs N, srcB_list rfl hN e, paired_N N⟩) (fun a x b y => [some (.ref r), some x, some y]) (fun _ _ _ _ => rfl) (fun _ _ _ _ _ _ _ _ _ _ q => q) (fun a b => !decide (a = b)) (fun a x b y _ _ ra rb => ?_) (fun a b => (a, b)) (fun a x b y _ _ ra rb _ => ?_)
    · cases ra; cases rb
      exact Evl.et_is (Evl.et_test (Evl.ev_op (Evl.ev_var rfl) (Evl.ev_var rfl) (Evl.rv_ne rfl))) (by rw [eqN])
    · cases ra; cases rb
      exact newR_pair (K := K) (Evl.ev_var rfl) (Evl.ev_var rfl)
theorem ok_carts_of (T : Txt K mg A) : FnOk P w K mg base CX0 1 A.carts_of A.carts_of_fd ["load", "origin", "target"] spCarts := by
  refine T.F_carts_of.ok sc_carts_of (fun vs H Q E h => ?_) (fun cdv A' outer s H vs Q E hr h => ?_)
  · obtain ⟨v, l, o, t, rfl, _⟩ := h
    rfl
  · obtain ⟨v, l, o, t, rfl, hl, hs, k⟩ := h
    refine ⟨_, (pss_one (ps_ret (show PE _ _ (tCB (rSum K) _) from (pe_callB (id := "sum") (cr_sum rfl) (by rfl) T.n_sum (by decide +kernel) (pa_cons (pe_lc (own := [("start", 3), ("end", 4), ("many", 5)]) rfl sc_carts_of.nd (Ei.pi_ei (show PI _ _ _ (iList K _) from pi_list (pv 0)) (show PI _ _ _ (iTup K _) from pi_tup (pv 0))) (blkOk_by (N := n_carts_of) (sc := defScope s_carts_of) (by decide +kernel)) (fun _ _ _ _ _ => (show PG _ _ (gTup K 3 _) from pg_tup rfl (pgs_cons (pg_name (i := 3) sc_carts_of.nd rfl (Or.inl rfl)) (pgs_cons (pg_name (i := 4) sc_carts_of.nd rfl (Or.inl rfl)) (pgs_cons (pg_name (i := 5) sc_carts_of.nd rfl (Or.inl rfl)) pgs_nil))))) (fun _ _ _ _ _ => (pts_one (PW.pt (pw_and (show PT _ _ (tTest (tOp (rIn K false) _ _)) from pt_cmpR op_in_seq (pv 1) (pe_tup (pa_cons pe_non (pa_cons (pv 3) pa_nil))) (by rfl)) (pw_and1 (show PT _ _ (tTest (tOp (rIn K false) _ _)) from pt_cmpR op_in_seq (pv 2) (pe_tup (pa_cons pe_non (pa_cons (pv 4) pa_nil))) (by rfl))))))) (fun _ _ _ _ _ => (pv 5))) pa_nil))))), ?_⟩
    obtain ⟨p, vs, rfl, hx, hp⟩ := id hl
    refine p_ret (P := Is (vI (carts l o t))) (evp_ev (ev_sumN (l := (l.filter fun e => okO o e.1 && okO t e.2.1).map fun e => e.2.2) ?_)) fun v H1 e1 h => ?_
    · refine EvP.imp (lcW moE (src_seq (v := .ref p) (Evl.ev_var rfl) hx) hp (by omega) (fun e _ => [some (.ref p), some (oV o), some (oV t), some (vI e.1), some (vI e.2.1), some (vI e.2.2)]) (fun _ _ => rfl) (fun e x H1 Q _ _ _ r q => ?_) (fun e => okO o e.1 && okO t e.2.1) (fun e x _ _ => ?_) (fun e => vI e.2.2) (fun e x _ _ _ => Evl.ev_var rfl)) (fun v Ha Hb _ _ h => ?_)
      · obtain ⟨t', rfl, h⟩ := r
        exact go_3 (i := 3) (j := 4) (l := 5) h q
      · exact Evl.et_and (Evl.et_test (ev_inO (Evl.ev_var rfl) (Evl.ev_var rfl))) (fun _ => Evl.et_test (ev_inO (Evl.ev_var rfl) (Evl.ev_var rfl)))
      · obtain ⟨q, r, fq, hq⟩ := h
        refine ⟨q, r, fq, ?_⟩
        rw [hq]
        unfold vIs
        rw [List.map_map]
        rfl
    · subst h
      exact k H1 e1
theorem ok_keeps (T : Txt K mg A) : FnOk P w K mg base CX0 2 A.keeps A.keeps_fd ["load", "bound"] spKeeps := by
  refine T.F_keeps.ok sc_keeps (fun vs H Q E h => ?_) (fun cdv A' outer s H vs Q E hr h => ?_)
  · obtain ⟨v, l, u, b, rfl, _⟩ := h
    rfl
  · obtain ⟨v, l, u, b, rfl, hl, hs, hb, k⟩ := h
    refine ⟨_, (pss_cons (ps_asg (pv 1) (show PG _ _ (gTup K 3 _) from pg_tup rfl (pgs_cons (pg_name (i := 2) sc_keeps.nd rfl (Or.inl rfl)) (pgs_cons (pg_name (i := 3) sc_keeps.nd rfl (Or.inl rfl)) (pgs_cons (pg_name (i := 4) sc_keeps.nd rfl (Or.inl rfl)) pgs_nil))))) (pss_one (ps_ret (pe_cmpR op_le (pe_call (ok_carts_of T) (hr.mono (by decide)) (by rfl) T.m_carts_of T.F_carts_of.kp T.b_carts_of .nil pass0 (pa_cons (pv 0) (pa_cons (pv 2) (pa_cons (pv 3) pa_nil)))) (pv 4) (nomark _))))), ?_⟩
    obtain ⟨t, rfl, ht⟩ := id hb
    refine p_asgG (evp_ev (Evl.ev_var rfl)) fun v' H2 e2 hv => ?_
    subst hv
    refine go_3 (e2 _ _ ht) ?_
    refine p_ret (P := Is (.bl (keeps l b))) (evp_ev (Evl.ev_is (Evl.ev_op (ev_carts (o := b.1) (t := b.2.1) (vb3 rfl rfl rfl) (moLd _ _ _ _ e2 hl) hs) (Evl.ev_var rfl) rv_I0P) (by show V.bl _ = _; rw [dec_le]; rfl))) fun v' H3 e3 h => ?_
    subst h
    exact k H3 (e2.trans e3)
theorem ev_keeps {σ : L2.St} {H : Hp} {ts : TA} {v u : V} {l : Ld} {b : Bd} (h : EvA ts σ H [v, u]) (hl : LdR H v l) (hs : l.length ≤ 1000) (hb : BdR H u b) : Ev (tCall spKeeps [] E0 ts) σ H (.bl (keeps l b)) :=
  ev_evp (evp_callA h (fun H2 e2 Q q => ⟨v, l, u, b, rfl, moLd _ _ _ _ e2 hl, hs, moB _ _ _ _ e2 hb, fun H3 e3 => q _ H3 e3 rfl⟩) (fun _ _ _ _ _ _ _ h => h))
theorem ok_stands_by (T : Txt K mg A) : FnOk P w K mg base CX0 3 A.stands_by A.stands_by_fd ["load", "alternative"] spStandsBy := by
  refine T.F_stands_by.ok sc_stands_by (fun vs H Q E h => ?_) (fun cdv A' outer s H vs Q E hr h => ?_)
  · obtain ⟨v, l, u, a, rfl, _⟩ := h
    rfl
  · obtain ⟨v, l, u, a, rfl, hl, hs, ha, has, k⟩ := h
    refine ⟨_, (pss_cons (ps_asg (pv 1) (show PG _ _ (gTup K 2 _) from pg_tup rfl (pgs_cons (pg_name (i := 2) sc_stands_by.nd rfl (Or.inl rfl)) (pgs_cons (pg_name (i := 3) sc_stands_by.nd rfl (Or.inl rfl)) pgs_nil)))) (pss_one (ps_ret (pe_and (pe_cmpR op_le (pe_call (ok_carts_of T) (hr.mono (by decide)) (by rfl) T.m_carts_of T.F_carts_of.kp T.b_carts_of .nil pass0 (pa_cons (pv 0) (pa_cons pe_non (pa_cons pe_non pa_nil)))) (pv 2) (nomark _)) (pe_one (show PE _ _ (tCB (rAll K) _) from (pe_callB (id := "all") (cr_all rfl) (by rfl) T.n_all (by decide +kernel) (pa_cons (pe_lc (own := [("bound", 4)]) rfl sc_stands_by.nd (Ei.pi_ei (show PI _ _ _ (iList K _) from pi_list (pv 3)) (show PI _ _ _ (iTup K _) from pi_tup (pv 3))) (blkOk_by (N := n_stands_by) (sc := defScope s_stands_by) (by decide +kernel)) (fun _ _ _ _ _ => (pg_name (i := 4) sc_stands_by.nd rfl (Or.inl rfl))) (fun _ _ _ _ _ => pts_nil) (fun _ _ _ _ _ => (pe_call (ok_keeps T) (hr.mono (by decide)) (by rfl) T.m_keeps T.F_keeps.kp T.b_keeps .nil pass0 (pa_cons (pv 0) (pa_cons (pv 4) pa_nil))))) pa_nil)))))))), ?_⟩
    obtain ⟨t, z, rfl, ht, hz⟩ := id ha
    refine p_asgG (evp_ev (Evl.ev_var rfl)) fun v' H2 e2 hv => ?_
    subst hv
    refine go_2 (e2 _ _ ht) ?_
    have hl2 := moLd _ _ _ _ e2 hl
    show tRet _ _ ([some v, some (.ref t), some (vI a.1), some z, none]) H2
    refine p_ret (P := Is (.bl (standsA l a))) (evp_ev (Evl.ev_is (Evl.ev_andV (Evl.ev_is (Evl.ev_op (ev_carts (o := none) (t := none) (Evl.ea_cons (Evl.ev_var rfl) (Evl.ea_cons Evl.ev_c (Evl.ea_cons Evl.ev_c Evl.ea_nil))) hl2 hs) (Evl.ev_var rfl) rv_I0P) (by show V.bl _ = V.bl _; rw [dec_le])) (fun _ => ev_allS moB (Evl.ev_var rfl) (moSeq moB _ _ _ _ e2 hz) (by omega) (fun b x => [some v, some (.ref t), some (vI a.1), some z, some x]) (fun _ _ => rfl) (fun _ _ _ _ _ _ _ q => q) (keeps l) (fun b x _ r => ev_keeps (vb2 rfl rfl) hl2 hs r))) rfl)) fun v' H3 e3 h => ?_
    subst h
    exact k H3 (e2.trans e3)
theorem ev_standsBy {σ : L2.St} {H : Hp} {ts : TA} {v u : V} {l : Ld} {a : Alt} (h : EvA ts σ H [v, u]) (hl : LdR H v l) (hs : l.length ≤ 1000) (ha : AltR H u a) (has : a.2.length ≤ 1000) : Ev (tCall spStandsBy [] E0 ts) σ H (.bl (standsA l a)) :=
  ev_evp (evp_callA h (fun H2 e2 Q q => ⟨v, l, u, a, rfl, moLd _ _ _ _ e2 hl, hs, moA _ _ _ _ e2 ha, has, fun H3 e3 => q _ H3 e3 rfl⟩) (fun _ _ _ _ _ _ _ h => h))
theorem ok_stands_in (T : Txt K mg A) : FnOk P w K mg base CX0 4 A.stands_in A.stands_in_fd ["load", "book"] spStandsIn := by
  refine T.F_stands_in.ok sc_stands_in (fun vs H Q E h => ?_) (fun cdv A' outer s H vs Q E hr h => ?_)
  · obtain ⟨v, l, u, B, rfl, _⟩ := h
    rfl
  · obtain ⟨v, l, u, B, rfl, hl, hs, hB, hBl, hbs, k⟩ := h
    refine ⟨_, (pss_one (ps_ret (show PE _ _ (tCB (rAny K) _) from (pe_callB (id := "any") (cr_any rfl) (by rfl) T.n_any (by decide +kernel) (pa_cons (pe_lc (own := [("alternative", 2)]) rfl sc_stands_in.nd (Ei.pi_ei (show PI _ _ _ (iList K _) from pi_list (pv 1)) (show PI _ _ _ (iTup K _) from pi_tup (pv 1))) (blkOk_by (N := n_stands_in) (sc := defScope s_stands_in) (by decide +kernel)) (fun _ _ _ _ _ => (pg_name (i := 2) sc_stands_in.nd rfl (Or.inl rfl))) (fun _ _ _ _ _ => pts_nil) (fun _ _ _ _ _ => (pe_call (ok_stands_by T) (hr.mono (by decide)) (by rfl) T.m_stands_by T.F_stands_by.kp T.b_stands_by .nil pass0 (pa_cons (pv 0) (pa_cons (pv 2) pa_nil))))) pa_nil))))), ?_⟩
    refine p_ret (P := Is (.bl (standsB B l))) (evp_ev (ev_anyS moA (Evl.ev_var rfl) hB (by omega) (fun a x => [some v, some u, some x]) (fun _ _ => rfl) (fun _ _ _ _ _ _ _ q => q) (standsA l) (fun a x ha r => ev_standsBy (vb2 rfl rfl) hl hs r (hbs a ha)))) fun v' H3 e3 h => ?_
    subst h
    exact k H3 e3
theorem ok_is_within (T : Txt K mg A) : FnOk P w K mg base CX0 1 A.is_within A.is_within_fd ["load", "other"] spWithin := by
  refine T.F_is_within.ok sc_is_within (fun vs H Q E h => ?_) (fun cdv A' outer s H vs Q E hr h => ?_)
  · obtain ⟨v, l, u, m, rfl, _⟩ := h
    rfl
  · obtain ⟨v, l, u, m, rfl, hl, hs, hm, hms, sm, k⟩ := h
    have hu := hu_of hr
    refine ⟨_, (pss_cons (ps_set (i := 2) sc_is_within.nd rfl (Or.inr rfl) (DC.pe_dcT hu (own := [("origin", 3), ("target", 4), ("many", 5)]) rfl sc_is_within.nd (Ei.pi_ei (show PI _ _ _ (iList K _) from pi_list (pv 1)) (show PI _ _ _ (iTup K _) from pi_tup (pv 1))) (blkOk_by (N := n_is_within) (sc := defScope s_is_within) (by decide +kernel)) (fun _ _ _ _ _ => (show PG _ _ (gTup K 3 _) from pg_tup rfl (pgs_cons (pg_name (i := 3) sc_is_within.nd rfl (Or.inl rfl)) (pgs_cons (pg_name (i := 4) sc_is_within.nd rfl (Or.inl rfl)) (pgs_cons (pg_name (i := 5) sc_is_within.nd rfl (Or.inl rfl)) pgs_nil))))) (fun _ _ _ _ _ => pts_nil) (fun _ _ _ _ _ => (pe_tup (pa_cons (pv 3) (pa_cons (pv 4) pa_nil)))) (fun _ _ _ _ _ => (pv 5)))) (pss_one (ps_ret (show PE _ _ (tCB (rAll K) _) from (pe_callB (id := "all") (cr_all rfl) (by rfl) T.n_all (by decide +kernel) (pa_cons (pe_lc (own := [("origin", 3), ("target", 4), ("many", 5)]) rfl sc_is_within.nd (Ei.pi_ei (show PI _ _ _ (iList K _) from pi_list (pv 0)) (show PI _ _ _ (iTup K _) from pi_tup (pv 0))) (blkOk_by (N := n_is_within) (sc := defScope s_is_within) (by decide +kernel)) (fun _ _ _ _ _ => (show PG _ _ (gTup K 3 _) from pg_tup rfl (pgs_cons (pg_name (i := 3) sc_is_within.nd rfl (Or.inl rfl)) (pgs_cons (pg_name (i := 4) sc_is_within.nd rfl (Or.inl rfl)) (pgs_cons (pg_name (i := 5) sc_is_within.nd rfl (Or.inl rfl)) pgs_nil))))) (fun _ _ _ _ _ => pts_nil) (fun _ _ _ _ _ => (pe_cmpR op_le (pv 5) (pe_dget2 hu (pv 2) (pe_tup (pa_cons (pv 3) (pa_cons (pv 4) pa_nil))) pe_int ⟨rfl, rfl, rfl, rfl⟩) (nomark _)))) pa_nil)))))), ?_⟩
    obtain ⟨qm, us, rfl, hx, hpm⟩ := id hm
    refine p_asg (dcTL moE (src_seq (v := .ref qm) (Evl.ev_var rfl) hx) hpm (by omega) (fun e x => [some v, some (.ref qm), none, some (vI e.1), some (vI e.2.1), some (vI e.2.2)]) (fun _ _ => rfl) (fun e x H1 Q _ _ r q => ?_) kPr (fun e => vI e.2.2) (kPr_nodup sm) (fun e x H1 _ _ _ => evp_key2 (Evl.ev_var rfl) (Evl.ev_var rfl)) (fun e x H1 _ _ _ => Evl.ev_var rfl)) fun v1 H1 e1 hv => ?_
    · obtain ⟨t', rfl, h⟩ := r
      exact go_3 (i := 3) (j := 4) (l := 5) h q
    obtain ⟨d, rfl, fd, hd⟩ := hv
    show tRet _ _ ([some v, some (.ref qm), some (.ref d), none, none, none]) H1
    refine p_ret (P := Is (.bl (withinL l m))) (evp_ev (ev_allS moE (Evl.ev_var rfl) (moLd _ _ _ _ e1 hl) (by omega) (fun e x => [some v, some (.ref qm), some (.ref d), some (vI e.1), some (vI e.2.1), some (vI e.2.2)]) (fun _ _ => rfl) (fun e x H1 Q _ _ r q => ?_) (fun e => decide (e.2.2 ≤ carts m (some e.1) (some e.2.1))) (fun e x _ _ => ?_))) fun v' H3 e3 h => ?_
    · obtain ⟨t', rfl, h⟩ := r
      exact go_3 (i := 3) (j := 4) (l := 5) h q
    · refine Evl.ev_is (Evl.ev_op (Evl.ev_var rfl) (Evl.ev_is (ev_dgetT (k := kPr (e.1, e.2.1, 0)) (Evl.ev_var rfl) hd (evp_key2 (Evl.ev_var rfl) (Evl.ev_var rfl)) Evl.ev_c) (get_carts e.1 e.2.1 sm)) rv_I0P) ?_
      show V.bl _ = V.bl _
      rw [dec_le]
    · subst h
      exact k H3 (e1.trans e3)
theorem ok_is_alternative (T : Txt K mg A) : FnOk P w K mg base CX0 5 A.is_alternative A.is_alternative_fd ["around", "value"] spAltOf := by
  refine T.F_is_alternative.ok sc_is_alternative (fun vs H Q E h => ?_) (fun cdv A' outer s H vs Q E hr h => ?_)
  · obtain ⟨r, N, v, a, rfl, _⟩ := h
    rfl
  · obtain ⟨r, N, v, a, rfl, hN, ha, G, k⟩ := h
    refine ⟨_, (pss_cons (ps_if (PW.pt (pw_or (pt_not (pt_val (show PE _ _ (tCB (rIsi K) _) from (pe_callB (id := "isinstance") call_isi (by rfl) T.n_isinstance (by decide +kernel) (pa_cons (pv 1) (pa_cons (pe_bltn (v := .ty "tuple") (by rfl) T.n_tuple (by decide +kernel) rfl) pa_nil)))))) (pw_or1 (pt_cmpR op_ne (show PE _ _ (tCB (rLenA K) _) from (pe_callB (id := "len") call_len (by rfl) T.n_len (by decide +kernel) (pa_cons (pv 1) pa_nil))) pe_int (nomark _))))) (pss_one (ps_ret pe_bl)) pss_nil) (pss_cons (ps_asg (pv 1) (show PG _ _ (gTup K 2 _) from pg_tup rfl (pgs_cons (pg_name (i := 2) sc_is_alternative.nd rfl (Or.inl rfl)) (pgs_cons (pg_name (i := 3) sc_is_alternative.nd rfl (Or.inl rfl)) pgs_nil)))) (pss_cons (ps_if (PW.pt (pw_or (pt_not (pt_val (pe_call (ok_is_count T) (hr.mono (by decide)) (by rfl) T.m_is_count T.F_is_count.kp T.b_is_count .nil pass0 (pa_cons (pv 2) pa_nil)))) (pw_or1 (pt_not (pt_chain op_le op_le pe_int (pv 2) (pe_globI rfl T.g_MOST_PLACES)))))) (pss_one (ps_ret pe_bl)) pss_nil) (pss_one (ps_ret (pe_and (pe_call (ok_is_row T) (hr.mono (by decide)) (by rfl) T.m_is_row T.F_is_row.kp T.b_is_row .nil pass0 (pa_cons (pv 3) pa_nil)) (pe_and (pe_cmpR op_le (show PE _ _ (tCB (rLenA K) _) from (pe_callB (id := "len") call_len (by rfl) T.n_len (by decide +kernel) (pa_cons (pv 3) pa_nil))) (pe_globI rfl T.g_MOST_BOUNDS) (nomark _)) (pe_one (show PE _ _ (tCB (rAll K) _) from (pe_callB (id := "all") (cr_all rfl) (by rfl) T.n_all (by decide +kernel) (pa_cons (pe_lc (own := [("bound", 4)]) rfl sc_is_alternative.nd (Ei.pi_ei (show PI _ _ _ (iList K _) from pi_list (pv 3)) (show PI _ _ _ (iTup K _) from pi_tup (pv 3))) (blkOk_by (N := n_is_alternative) (sc := defScope s_is_alternative) (by decide +kernel)) (fun _ _ _ _ _ => (pg_name (i := 4) sc_is_alternative.nd rfl (Or.inl rfl))) (fun _ _ _ _ _ => pts_nil) (fun _ _ _ _ _ => (pe_call (ok_is_bound T) (hr.mono (by decide)) (by rfl) T.m_is_bound T.F_is_bound.kp T.b_is_bound .nil pass0 (pa_cons (pv 0) (pa_cons (pv 4) pa_nil))))) pa_nil))))))))))), ?_⟩
    obtain ⟨t, z, rfl, ht, hz⟩ := id ha
    have g1 := G.least
    have g2 := G.most
    have g3 := G.few
    refine p_skip (Evl.et_or (a := false) (b := false) (Evl.et_is (Evl.et_not (a := true) (Evl.et_B (ev_isTup (Evl.ev_var rfl) ht))) rfl) (fun _ => Evl.et_is (Evl.et_test (Evl.ev_op (ev_lenT (Evl.ev_var rfl) ht) Evl.ev_c (Evl.rv_ne rfl))) rfl)) fun H1 e1 => ?_
    refine p_asgG (evp_ev (Evl.ev_var rfl)) fun v H2 e2 hv => ?_
    subst hv
    have x2 := e1.trans e2
    refine go_2 (x2 _ _ ht) ?_
    show tSeq (tIfS _ _ tNext) _ _ ([some (.ref r), some (.ref t), some (vI a.1), some z, none]) H2
    refine p_skip (Evl.et_or (a := false) (b := false) (Evl.et_is (Evl.et_not (a := true) (Evl.et_B (ev_count (va1 rfl)))) rfl) (fun _ => Evl.et_is (Evl.et_not (a := true) (Evl.et_B (ev_chain (x := .int 1) (y := vI a.1) (z := .int 6) Evl.ev_c (Evl.ev_var rfl) (rv_le1 (by omega)) Evl.ev_c (rv_le1 (by omega))))) rfl)) fun H3 e3 => ?_
    have x3 := x2.trans e3
    have hz3 := moSeq moB _ _ _ _ x3 hz
    refine p_ret (P := Is (.bl true)) (evp_ev (Evl.ev_is (Evl.ev_andV (a := true) (b := true && a.2.all fun _ => true) (ev_isRow (va1 rfl) hz3) (fun _ => Evl.ev_andV (Evl.ev_is (Evl.ev_op (ev_lenS (Evl.ev_var rfl) hz3) Evl.ev_c rv_I0P) (by show V.bl _ = V.bl true; rw [decide_eq_true (by omega)])) (fun _ => ev_allS moB (Evl.ev_var rfl) hz3 (by omega) (fun b x => [some (.ref r), some (.ref t), some (vI a.1), some z, some x]) (fun _ _ => rfl) (fun _ _ _ _ _ _ _ q => q) (fun _ => true) (fun b x hb rb => ?_)))) ?_)) fun v H4 e4 hv => ?_
    · exact ev_evp (evp_callA (vb2 rfl rfl) (fun H5 e5 Q q => ⟨r, N, x, b, rfl, hN.ex (x3.trans e5), moB _ _ _ _ e5 rb, G.bs b hb, fun H6 e6 => q _ H6 e6 rfl⟩) (fun _ _ _ _ _ _ _ h => h))
    · simp
    · subst hv
      exact k H4 (x3.trans e4)
theorem ok_is_book_of (T : Txt K mg A) : FnOk P w K mg base CX0 6 A.is_book_of A.is_book_of_fd ["around", "value"] spBookOf := by
  refine T.F_is_book_of.ok sc_is_book_of (fun vs H Q E h => ?_) (fun cdv A' outer s H vs Q E hr h => ?_)
  · obtain ⟨r, N, v, B, rfl, _⟩ := h
    rfl
  · obtain ⟨r, N, v, B, rfl, hN, hNl, hB, G, k⟩ := h
    refine ⟨_, (pss_cons (ps_if (PW.pt (pw_or (pt_not (pt_val (pe_call (ok_is_row T) (hr.mono (by decide)) (by rfl) T.m_is_row T.F_is_row.kp T.b_is_row .nil pass0 (pa_cons (pv 1) pa_nil)))) (pw_or1 (pt_not (pt_chain op_le op_le pe_int (show PE _ _ (tCB (rLenA K) _) from (pe_callB (id := "len") call_len (by rfl) T.n_len (by decide +kernel) (pa_cons (pv 1) pa_nil))) (pe_globI rfl T.g_MOST_ALTERNATIVES)))))) (pss_one (ps_ret pe_bl)) pss_nil) (pss_cons (ps_if (pt_not (pt_val (show PE _ _ (tCB (rAll K) _) from (pe_callB (id := "all") (cr_all rfl) (by rfl) T.n_all (by decide +kernel) (pa_cons (pe_lc (own := [("alternative", 2)]) rfl sc_is_book_of.nd (Ei.pi_ei (show PI _ _ _ (iList K _) from pi_list (pv 1)) (show PI _ _ _ (iTup K _) from pi_tup (pv 1))) (blkOk_by (N := n_is_book_of) (sc := defScope s_is_book_of) (by decide +kernel)) (fun _ _ _ _ _ => (pg_name (i := 2) sc_is_book_of.nd rfl (Or.inl rfl))) (fun _ _ _ _ _ => pts_nil) (fun _ _ _ _ _ => (pe_call (ok_is_alternative T) (hr.mono (by decide)) (by rfl) T.m_is_alternative T.F_is_alternative.kp T.b_is_alternative .nil pass0 (pa_cons (pv 0) (pa_cons (pv 2) pa_nil))))) pa_nil))))) (pss_one (ps_ret pe_bl)) pss_nil) (pss_one (ps_ret (show PE _ _ (tCB (rAll K) _) from (pe_callB (id := "all") (cr_all rfl) (by rfl) T.n_all (by decide +kernel) (pa_cons (pe_lc (own := [("origin", 3), ("target", 4)]) rfl sc_is_book_of.nd (show PI _ _ _ (iList K _) from pi_list (pe_call (ok_pairs_of T) (hr.mono (by decide)) (by rfl) T.m_pairs_of T.F_pairs_of.kp T.b_pairs_of .nil pass0 (pa_cons (pv 0) pa_nil))) (blkOk_by (N := n_is_book_of) (sc := defScope s_is_book_of) (by decide +kernel)) (fun _ _ _ _ _ => (show PG _ _ (gTup K 2 _) from pg_tup rfl (pgs_cons (pg_name (i := 3) sc_is_book_of.nd rfl (Or.inl rfl)) (pgs_cons (pg_name (i := 4) sc_is_book_of.nd rfl (Or.inl rfl)) pgs_nil)))) (fun _ _ _ _ _ => pts_nil) (fun _ _ _ _ _ => (pe_call (ok_stands_in T) (hr.mono (by decide)) (by rfl) T.m_stands_in T.F_stands_in.kp T.b_stands_in .nil pass0 (pa_cons (pe_lst (pa_cons (pe_tup (pa_cons (pv 3) (pa_cons (pv 4) (pa_cons pe_int pa_nil)))) pa_nil)) (pa_cons (pv 1) pa_nil))))) pa_nil))))))), ?_⟩
    have g1 := G.least
    have g2 := G.most
    refine p_skip (Evl.et_or (a := false) (b := false) (Evl.et_is (Evl.et_not (a := true) (Evl.et_B (ev_isRow (va1 rfl) hB))) rfl) (fun _ => Evl.et_is (Evl.et_not (a := true) (Evl.et_B (ev_chain (x := .int 1) (y := vI B.length) (z := .int 4) Evl.ev_c (ev_lenS (Evl.ev_var rfl) hB) (rv_le1 (by omega)) Evl.ev_c (rv_le1 (by omega))))) rfl)) fun H1 e1 => ?_
    have hB1 := moBk _ _ _ _ e1 hB
    refine p_skip (Evl.et_is (Evl.et_not (a := true) (Evl.et_B (Evl.ev_is (ev_allS moA (Evl.ev_var rfl) hB1 (by omega) (fun a x => [some (.ref r), some v, some x, none, none]) (fun _ _ => rfl) (fun _ _ _ _ _ _ _ q => q) (fun _ => true) (fun a x ha ra => ?_)) (by simp)))) rfl) fun H2 e2 => ?_
    · exact ev_evp (evp_callA (vb2 rfl rfl) (fun H5 e5 Q q => ⟨r, N, x, a, rfl, hN.ex (e1.trans e5), moA _ _ _ _ e5 ra, G.as_ a ha, fun H6 e6 => q _ H6 e6 rfl⟩) (fun _ _ _ _ _ _ _ h => h))
    have x2 := e1.trans e2
    have hB2 := moBk _ _ _ _ e2 hB1
    have pl : (pairsN N).length ≤ 10000 := by
      unfold pairsN
      rw [List.length_flatMap]
      have : ∀ (M : List Nat), (M.map fun o => ((N.filter fun t => !decide (o = t)).map fun t => (o, t)).length).sum ≤ M.length * 100 := by
        intro M
        induction M with
        | nil => simp
        | cons a M ih =>
          rw [List.map_cons, List.sum_cons, List.length_map, List.length_cons, Nat.succ_mul]
          have := List.length_filter_le (fun t => !decide (a = t)) N
          omega
      have h := this N
      have := Nat.mul_le_mul_right 100 hNl
      omega
    refine p_ret (P := Is (.bl true)) (evp_ev (Evl.ev_is (ev_allN moP (L := pairsN N) (evp_callA (vs := [.ref r]) (va1 rfl) (fun H5 e5 Q q => ⟨H2, r, N, e5, rfl, hN.ex x2, hNl, fun z H6 e6 hz => q z H6 e6 hz⟩) (fun v Ha Hb Hc _ eb _ h => h.back eb)) (by omega) (fun p x => [some (.ref r), some v, none, some (vI p.1), some (vI p.2)]) (fun _ _ => rfl) (fun p x H1 Q _ _ rp q => ?_) (fun _ => true) (fun p x H3 hp e3 rp => ?_)) (by simp))) fun v' H4 e4 hv => ?_
    · obtain ⟨t', rfl, h⟩ := rp
      exact go_2 (i := 3) (j := 4) h q
    · obtain ⟨o, t⟩ := p
      refine ev_evp (evp_call2 (evp_lst1 moE (evp_tup3 (o := o) (t := t) (n := 1) (Evl.ev_var rfl) (Evl.ev_var rfl) Evl.ev_c)) (Evl.ev_var rfl) (fun v2 Ha Hb Hc ea eb ec hv Q q => ?_))
      exact ⟨v2, [(o, t, 1)], v, B, rfl, seq_of (moE.lst _ _ _ _ ec (newLst_at moE hv)), (by show 1 ≤ 1000; decide), moBk _ _ _ _ ((e3.trans ea).trans (eb.trans ec)) hB2, by omega, fun a ha => by have := (G.as_ a ha).few; omega, fun H6 e6 => q _ H6 e6 (by rw [G.single o t hp]; rfl)⟩
    · subst hv
      exact k H4 (x2.trans e4)
end
end K26

set_option Elab.async false
set_option linter.all false
set_option maxRecDepth 100000
set_option maxHeartbeats 4000000
namespace Pr
open PySem PySem.Spec PyProof.Rows L2 TM Ep Nw
open Evl (Ex Ev EvT EvA EvL EvU EvO)
section
variable {K : PySem.W.Frag} {σ : L2.St} {H : Hp} {te ta tb tc : TE} {ts : TA}
theorem code_c3 (e : Ent) : TS.code 2048 [(e.1 : Int), (e.2.1 : Int), (e.2.2 : Int)] = ((c3 e : Nat) : Int) := by
  unfold c3
  simp only [TS.code, List.length_cons, List.length_nil]
  omega
theorem bd_sm {e : Ent} (h : Sm e) : TS.Bd 2048 [(e.1 : Int), (e.2.1 : Int), (e.2.2 : Int)] := fun m hm => by
  unfold Sm at h
  simp only [List.mem_cons, List.not_mem_nil, or_false] at hm
  omega
theorem entI {e : Ent} {v : V} (h : EntR H v e) : TupI K H v [(e.1 : Int), (e.2.1 : Int), (e.2.2 : Int)] := by
  obtain ⟨t, r, k⟩ := h
  exact ⟨t, r, Evl.st_of k⟩
theorem perm_paired {α β : Type} {R : α → β → Prop} {xs ys : List α} (p : ys.Perm xs) : ∀ {l : List β}, Paired R xs l → ∃ m : List β, m.Perm l ∧ Paired R ys m := by
  induction p with
  | nil => exact fun h => ⟨_, List.Perm.refl _, h⟩
  | cons x _ ih =>
    intro l h
    cases h with
    | cons r t =>
      obtain ⟨m, a, b⟩ := ih t
      exact ⟨_ :: m, a.cons _, .cons r b⟩
  | swap x y zs =>
    intro l h
    match l, h with
    | _ :: _ :: l, .cons r (.cons r2 t) => exact ⟨_ :: _ :: l, List.Perm.swap _ _ _, .cons r2 (.cons r t)⟩
  | trans _ _ ih1 ih2 =>
    intro l h
    obtain ⟨m, a, b⟩ := ih2 h
    obtain ⟨m2, a2, b2⟩ := ih1 b
    exact ⟨m2, a2.trans a, b2⟩
/-- sorted(loads' entries) -/
theorem evp_sort3 {l : Ld} (h : EvP te σ H (NewLst EntR H l)) (hl : l.length < 64) (sm : ∀ e ∈ l, Sm e) : EvP (tCB (rSortU K 3 2048) (tCons te tNil)) σ H (NewLst EntR H (tsort l)) := fun H1 e Q q =>
  h H1 e _ fun v H2 e2 ⟨p, vs, Hn, r, fp, m, k, hp⟩ => by
    subst r
    have hp2 := moE.paired m.ex hp
    refine ⟨p, vs, rfl, Evl.sq_of (m _ _ k).1, by rw [PySem.Paired.length hp]; exact hl, fun x hx => ?_, fun ys c pm srt hc => ?_⟩
    · obtain ⟨i, hi, ex⟩ := List.mem_iff_getElem.mp hx
      obtain ⟨ee, he, re⟩ := pix hp2 (List.getElem?_eq_getElem hi)
      rw [ex] at re
      exact ⟨_, entI re, rfl, bd_sm (sm _ (List.mem_of_getElem? he))⟩
    · obtain ⟨M, pM, hM⟩ := perm_paired pm hp
      have hM2 := moE.paired m.ex hM
      have f1 := Evl.fresh_back e2 hc
      obtain ⟨m2, ex2⟩ := m.put (o := .lst ys) hc f1
      have eM : M = tsort l := by
        refine tsort_of pM ?_ sm
        have hl2 : ys.length = M.length := PySem.Paired.length hM
        refine List.pairwise_iff_getElem.mpr fun i j hi hj hij => ?_
        have s := List.pairwise_iff_getElem.mp srt i j (by omega) (by omega) hij
        obtain ⟨x1, hx1, r1⟩ := piy hM2 (List.getElem?_eq_getElem hi)
        obtain ⟨x2, hx2, r2⟩ := piy hM2 (List.getElem?_eq_getElem hj)
        rw [List.getElem?_eq_getElem (by omega)] at hx1 hx2
        have a1 := Option.some.inj hx1
        have a2 := Option.some.inj hx2
        rw [a1, a2] at s
        have := s _ _ (entI (K := K) r1) (entI r2)
        rw [code_c3, code_c3] at this
        omega
      subst eM
      exact q _ _ (e2.trans (Ex.new hc)) ⟨c, ys, _, rfl, f1, m2, upd_same, moE.paired ex2 hM⟩
theorem ev_allR {ta : TA} {g : TG} {vs : List Nat} {j : Int} {f : Nat → Bool} (h : EvA ta σ H [.int j]) (hj : -100000 ≤ j ∧ j ≤ 50000) (st : V → L2.St) (hw : ∀ x, wipe (st x) vs = wipe σ vs) (hg : ∀ x H1 Q, Ex H H1 → Q (st x) H1 → g x (wipe σ vs) H1 Q) (he : ∀ i, i < j.toNat → Ev te (st (vI i)) H (.bl (f i))) :
    Ev (tCB (rAll K) (tCons (tLc (iRng1 ta) g tYes te vs) tNil)) σ H (.bl ((List.range j.toNat).all f)) := by
  have src : Src (iRng1 ta) σ H j.toNat (fun i v => v = vI i) := fun H1 e R k => h H1 e _ fun H2 e2 => ⟨j, rfl, by omega, by omega, k (Itr 0 j.toNat) H2 (fun _ => True) e2 (fun _ _ => trivial) (walk_range.mono (fun _ h => h) fun i H x H' _ _ y => ⟨y.1, by
    rw [y.2]
    show V.int (0 + (i : Int)) = _
    rw [Int.zero_add]⟩)⟩
  have := ev_all (K := K) (bs := (List.range j.toNat).map f) (te := tLc (iRng1 ta) g tYes te vs) (σ := σ) (H := H) ((lcV src (by omega) (fun _ x => st x) (fun _ x => hw x) (fun _ x H1 Q e _ _ q => hg x H1 Q e q) (fun _ => true) (fun i => .bl (f i)) (fun _ _ _ _ _ _ => fun H1 e Q q => q H1 (Ex.refl _)) (fun i x H1 e1 hi hx _ => by
    cases hx
    exact (he i hi).mono e1)).imp fun v _ _ _ _ h => by
      rw [filter_true, show (List.range j.toNat).map (fun i => V.bl (f i)) = ((List.range j.toNat).map f).map V.bl by rw [List.map_map]; rfl] at h
      exact h)
  rw [all_map] at this
  exact this
def dT2 (o t : Nat) : PyData := .tuple [.int (o : Int), .int (t : Int)]
theorem rv_neT2 {a b c d : Nat} {p q : Addr} (h1 : H p = some (.tup [vI a, vI b])) (h2 : H q = some (.tup [vI c, vI d])) : Evl.RV (rNeD K) (.ref p) (.ref q) H (.bl (!(decide (a = c) && decide (b = d)))) := fun H1 e Q k =>
  ⟨dT2 a b, dT2 c d, .tup (Evl.st_of (e _ _ h1)) (.cons (.int _) (.cons (.int _) .nil)), .tup (Evl.st_of (e _ _ h2)) (.cons (.int _) (.cons (.int _) .nil)), by rfl, by rfl, by
    have z := k H1 (Ex.refl _)
    have e1 : ∀ x y : Nat, (((x : Int) == (y : Int)) : Bool) = decide (x = y) := fun x y => by
      by_cases h : x = y
      · subst h
        simp
      · rw [decide_eq_false h, beq_eq_false_iff_ne]
        omega
    unfold dT2
    simp only [PyData.eqv, PyData.eqvAll, e1, Bool.and_true]
    exact z⟩
end
end Pr
namespace K26
open PySem PySem.Spec PyProof.Rows L2 TM Pr Ep Nw
open Evl (Ex Ev EvT EvA EvL EvU EvO)
section
variable {P : Program} {w : World} {K : PySem.W.Frag} {mg : Str → Option Value} {base : Heap} {A : Adr}
theorem ok_is_entry (T : Txt K mg A) : FnOk P w K mg base CX0 4 A.is_entry A.is_entry_fd ["around", "value"] spEntry := by
  refine T.F_is_entry.ok sc_is_entry (fun vs H Q E h => ?_) (fun cdv A' outer s H vs Q E hr h => ?_)
  · obtain ⟨r, N, v, e, rfl, _⟩ := h
    rfl
  · obtain ⟨r, N, v, e, rfl, hN, he, pr, pos, k⟩ := h
    refine ⟨_, (pss_cons (ps_if (PW.pt (pw_or (pt_not (pt_val (show PE _ _ (tCB (rIsi K) _) from (pe_callB (id := "isinstance") call_isi (by rfl) T.n_isinstance (by decide +kernel) (pa_cons (pv 1) (pa_cons (pe_bltn (v := .ty "tuple") (by rfl) T.n_tuple (by decide +kernel) rfl) pa_nil)))))) (pw_or1 (pt_cmpR op_ne (show PE _ _ (tCB (rLenA K) _) from (pe_callB (id := "len") call_len (by rfl) T.n_len (by decide +kernel) (pa_cons (pv 1) pa_nil))) pe_int (nomark _))))) (pss_one (ps_ret pe_bl)) pss_nil) (pss_one (ps_ret (pe_and (pe_call (ok_is_pair_of T) (hr.mono (by decide)) (by rfl) T.m_is_pair_of T.F_is_pair_of.kp T.b_is_pair_of .nil pass0 (pa_cons (pv 0) (pa_cons (show PE _ _ (tOp (rIxT K) _ _) from pe_ix ix_tup (pv 1) pe_int (fun _ _ => rfl)) (pa_cons (show PE _ _ (tOp (rIxT K) _ _) from pe_ix ix_tup (pv 1) pe_int (fun _ _ => rfl)) pa_nil)))) (pe_and (pe_call (ok_is_count T) (hr.mono (by decide)) (by rfl) T.m_is_count T.F_is_count.kp T.b_is_count .nil pass0 (pa_cons (show PE _ _ (tOp (rIxT K) _ _) from pe_ix ix_tup (pv 1) pe_int (fun _ _ => rfl)) pa_nil)) (pe_one (pe_cmpR op_gt (show PE _ _ (tOp (rIxT K) _ _) from pe_ix ix_tup (pv 1) pe_int (fun _ _ => rfl)) pe_int (nomark _)))))))), ?_⟩
    obtain ⟨t, rfl, ht⟩ := id he
    refine p_skip (Evl.et_or (a := false) (b := false) (Evl.et_is (Evl.et_not (a := true) (Evl.et_B (ev_isTup (Evl.ev_var rfl) ht))) rfl) (fun _ => Evl.et_is (Evl.et_test (Evl.ev_op (ev_lenT (Evl.ev_var rfl) ht) Evl.ev_c (Evl.rv_ne rfl))) rfl)) fun H1 e1 => ?_
    have ix : ∀ {H2 : Hp} {j : Nat} {z : V}, Ex H1 H2 → ([vI e.1, vI e.2.1, vI e.2.2] : List V)[j]? = some z → Ev (tOp (rIxT K) (tVar 1) (tC (.int (j : Int)))) [some (.ref r), some (.ref t)] H2 z := fun e2 h => Evl.ev_op (Evl.ev_var rfl) Evl.ev_c (Evl.rv_ixT (Evl.st_of ((e1.trans e2) _ _ ht)) (at_of rfl h))
    refine p_ret (P := Is (.bl true)) (evp_ev (Evl.ev_is (Evl.ev_andV (a := decide ((e.1, e.2.1) ∈ pairsN N)) (b := true) (ev_pairOf (Evl.ea_cons (Evl.ev_var rfl) (Evl.ea_cons (ix (j := 0) (Ex.refl _) rfl) (Evl.ea_cons (ix (j := 1) (Ex.refl _) rfl) Evl.ea_nil))) (hN.ex e1)) (fun _ => Evl.ev_andV (a := true) (b := true) (ev_count (Evl.ea_cons (ix (j := 2) (Ex.refl _) rfl) Evl.ea_nil)) (fun _ => Evl.ev_is (Evl.ev_op (ix (j := 2) (Ex.refl _) rfl) Evl.ev_c rv_I0P) (by show V.bl _ = V.bl true; rw [decide_eq_true (by omega)])))) (by rw [decide_eq_true pr]; rfl))) fun v H2 e2 hv => ?_
    subst hv
    exact k H2 (e1.trans e2)
theorem ok_is_load_of (T : Txt K mg A) : FnOk P w K mg base CX0 5 A.is_load_of A.is_load_of_fd ["around", "value"] spLoadOf := by
  refine T.F_is_load_of.ok sc_is_load_of (fun vs H Q E h => ?_) (fun cdv A' outer s H vs Q E hr h => ?_)
  · obtain ⟨r, N, v, l, rfl, _⟩ := h
    rfl
  · obtain ⟨r, N, v, l, rfl, hN, hl, G, hs, k⟩ := h
    have hu := hu_of hr
    refine ⟨_, (pss_cons (ps_if (PW.pt (pw_or (pt_not (pt_val (pe_call (ok_is_row T) (hr.mono (by decide)) (by rfl) T.m_is_row T.F_is_row.kp T.b_is_row .nil pass0 (pa_cons (pv 1) pa_nil)))) (pw_or1 (pt_not (pt_val (show PE _ _ (tCB (rAll K) _) from (pe_callB (id := "all") (cr_all rfl) (by rfl) T.n_all (by decide +kernel) (pa_cons (pe_lc (own := [("entry", 3)]) rfl sc_is_load_of.nd (Ei.pi_ei (show PI _ _ _ (iList K _) from pi_list (pv 1)) (show PI _ _ _ (iTup K _) from pi_tup (pv 1))) (blkOk_by (N := n_is_load_of) (sc := defScope s_is_load_of) (by decide +kernel)) (fun _ _ _ _ _ => (pg_name (i := 3) sc_is_load_of.nd rfl (Or.inl rfl))) (fun _ _ _ _ _ => pts_nil) (fun _ _ _ _ _ => (pe_call (ok_is_entry T) (hr.mono (by decide)) (by rfl) T.m_is_entry T.F_is_entry.kp T.b_is_entry .nil pass0 (pa_cons (pv 0) (pa_cons (pv 3) pa_nil))))) pa_nil)))))))) (pss_one (ps_ret pe_bl)) pss_nil) (pss_cons (ps_set (i := 2) sc_is_load_of.nd rfl (Or.inr rfl) (pe_lc (own := [("origin", 4), ("target", 5), ("_", 6)]) rfl sc_is_load_of.nd (Ei.pi_ei (show PI _ _ _ (iList K _) from pi_list (pv 1)) (show PI _ _ _ (iTup K _) from pi_tup (pv 1))) (blkOk_by (N := n_is_load_of) (sc := defScope s_is_load_of) (by decide +kernel)) (fun _ _ _ _ _ => (show PG _ _ (gTup K 3 _) from pg_tup rfl (pgs_cons (pg_name (i := 4) sc_is_load_of.nd rfl (Or.inl rfl)) (pgs_cons (pg_name (i := 5) sc_is_load_of.nd rfl (Or.inl rfl)) (pgs_cons (pg_name (i := 6) sc_is_load_of.nd rfl (Or.inl rfl)) pgs_nil))))) (fun _ _ _ _ _ => pts_nil) (fun _ _ _ _ _ => (pe_tup (pa_cons (pv 4) (pa_cons (pv 5) pa_nil)))))) (pss_one (ps_ret (show PE _ _ (tCB (rAll K) _) from (pe_callB (id := "all") (cr_all rfl) (by rfl) T.n_all (by decide +kernel) (pa_cons (pe_lc (own := [("at", 7)]) rfl sc_is_load_of.nd (pi_range1 (by rfl) T.n_range (pa_cons (pe_op op_sub (show PE _ _ (tCB (rLenA K) _) from (pe_callB (id := "len") call_len (by rfl) T.n_len (by decide +kernel) (pa_cons (pv 2) pa_nil))) pe_int) pa_nil)) (blkOk_by (N := n_is_load_of) (sc := defScope s_is_load_of) (by decide +kernel)) (fun _ _ _ _ _ => (pg_name (i := 7) sc_is_load_of.nd rfl (Or.inl rfl))) (fun _ _ _ _ _ => pts_nil) (fun _ _ _ _ _ => (show PE _ _ (tOp (rLtT K) _ _) from pe_cmpR (op_ltT (Nat.lt_of_succ_lt hu)) (show PE _ _ (tOp (rIxL K) _ _) from pe_ix ix_list (pv 2) (pv 7) (fun _ _ => rfl)) (show PE _ _ (tOp (rIxL K) _ _) from pe_ix ix_list (pv 2) (pe_op op_add (pv 7) pe_int) (fun _ _ => rfl)) (nomark _)))) pa_nil))))))), ?_⟩
    refine p_skip (Evl.et_or (a := false) (b := false) (Evl.et_is (Evl.et_not (a := true) (Evl.et_B (ev_isRow (va1 rfl) hl))) rfl) (fun _ => Evl.et_is (Evl.et_not (a := true) (Evl.et_B (Evl.ev_is (ev_allS moE (Evl.ev_var rfl) hl (by omega) (fun e x => [some (.ref r), some v, none, some x, none, none, none, none]) (fun _ _ => rfl) (fun _ _ _ _ _ _ _ q => q) (fun _ => true) (fun e x he re => ?_)) (by simp)))) rfl)) fun H1 e1 => ?_
    · exact ev_evp (evp_callA (vb2 rfl rfl) (fun H5 e5 Q q => ⟨r, N, x, e, rfl, hN.ex e5, moE _ _ _ _ e5 re, G.pr e he, G.pos e he, fun H6 e6 => q _ H6 e6 rfl⟩) (fun _ _ _ _ _ _ _ h => h))
    have hl1 := moLd _ _ _ _ e1 hl
    obtain ⟨p, vs, rfl, hx, hp⟩ := id hl1
    refine p_asg (lcG (S := PrR) moE moP (src_seq (v := .ref p) (Evl.ev_var rfl) hx) hp (by omega) (fun e x => [some (.ref r), some (.ref p), none, none, some (vI e.1), some (vI e.2.1), some (vI e.2.2), none]) (fun _ _ => rfl) (fun e x H1 Q _ _ _ re q => ?_) (fun _ => true) (fun _ _ _ _ => yes_ev) (fun e => (e.1, e.2.1)) (fun e x _ _ _ => newR_pair (K := K) (Evl.ev_var rfl) (Evl.ev_var rfl))) fun v2 H2 e2 hv => ?_
    · obtain ⟨t', rfl, h⟩ := re
      exact go_3 (i := 4) (j := 5) (l := 6) h q
    rw [filter_true] at hv
    obtain ⟨q, ws, rfl, hq, hws⟩ := newLst_at moP hv
    have x2 := e1.trans e2
    show tRet _ _ ([some (.ref r), some (.ref p), some (.ref q), none, none, none, none, none]) H2
    have hwl : ws.length = l.length := by rw [PySem.Paired.length hws, List.length_map]
    have two : ∀ {i : Nat}, i < (((l.length : Int) - 1).toNat) → ∃ e f, l[i]? = some e ∧ l[i + 1]? = some f ∧ lt2 e f := fun {i} hi => by
      have h1 : i < l.length := by omega
      have h2 : i + 1 < l.length := by omega
      exact ⟨l[i], l[i + 1], List.getElem?_eq_getElem h1, List.getElem?_eq_getElem h2, List.pairwise_iff_getElem.mp G.srt i (i + 1) h1 h2 (by omega)⟩
    refine p_ret (P := Is (.bl true)) (evp_ev (Evl.ev_is (ev_allR (j := (l.length : Int) - 1) (f := fun _ => true) (Evl.ea_cons (Evl.ev_op (Evl.ev_is (ev_lenL (Evl.ev_var rfl) (Evl.sq_of hq)) (by rw [hwl])) Evl.ev_c rv_I0P) Evl.ea_nil) (by omega) (fun x => [some (.ref r), some (.ref p), some (.ref q), none, none, none, none, some x]) (fun _ => rfl) (fun _ _ _ _ q => q) (fun i hi => ?_)) (by simp))) fun v2 H3 e3 hv => ?_
    · obtain ⟨e, f, h1, h2, hlt⟩ := two hi
      obtain ⟨y1, hy1, r1⟩ := piy hws (show (l.map fun e => (e.1, e.2.1))[i]? = some (e.1, e.2.1) by rw [List.getElem?_map, h1]; rfl)
      obtain ⟨y2, hy2, r2⟩ := piy hws (show (l.map fun e => (e.1, e.2.1))[i + 1]? = some (f.1, f.2.1) by rw [List.getElem?_map, h2]; rfl)
      obtain ⟨t1, rfl, k1⟩ := r1
      obtain ⟨t2, rfl, k2⟩ := r2
      refine Evl.ev_op (x := .ref t1) (y := .ref t2) (Evl.ev_op (Evl.ev_var rfl) (Evl.ev_var rfl) (Evl.rv_ixL (Evl.sq_of hq) (at_of rfl hy1))) (Evl.ev_op (Evl.ev_var rfl) (Evl.ev_is (w := vI (i + 1)) (Evl.ev_op (Evl.ev_var rfl) Evl.ev_c rv_I0P) (by show V.int _ = V.int _; congr 1)) (Evl.rv_ixL (Evl.sq_of hq) (at_of rfl hy2))) (fun H4 e4 Q' q' => ⟨t1, t2, [(e.1 : Int), (e.2.1 : Int)], [(f.1 : Int), (f.2.1 : Int)], rfl, rfl, Evl.st_of (e4 _ _ k1), Evl.st_of (e4 _ _ k2), ?_⟩)
      have : HT.lexLt [(e.1 : Int), (e.2.1 : Int)] [(f.1 : Int), (f.2.1 : Int)] = true := by
        unfold lt2 at hlt
        simp only [HT.lexLt]
        by_cases c : e.1 = f.1
        · have : e.2.1 < f.2.1 := by omega
          simp [c]
          omega
        · have h1 : e.1 < f.1 := by omega
          have h2 : ¬ ((e.1 : Int) = (f.1 : Int)) := by omega
          have h3 : (e.1 : Int) < (f.1 : Int) := by omega
          simp [h2, h3]
      rw [this]
      exact q' H4 (Ex.refl _)
    · subst hv
      exact k H3 (x2.trans e3)
theorem ok_copied_book (T : Txt K mg A) : FnOk P w K mg base CX0 1 A.copied_book A.copied_book_fd ["book"] spCopied := by
  refine T.F_copied_book.ok sc_copied_book (fun vs H Q E h => ?_) (fun cdv A' outer s H vs Q E hr h => ?_)
  · obtain ⟨B0, v, B, _, rfl, _⟩ := h
    rfl
  · obtain ⟨B0, v, B, e0, rfl, hB, hl, k⟩ := h
    refine ⟨_, (pss_one (ps_ret (pe_lc (own := [("places", 1), ("bounds", 2)]) rfl sc_copied_book.nd (Ei.pi_ei (show PI _ _ _ (iList K _) from pi_list (pv 0)) (show PI _ _ _ (iTup K _) from pi_tup (pv 0))) (blkOk_by (N := n_copied_book) (sc := defScope s_copied_book) (by decide +kernel)) (fun _ _ _ _ _ => (show PG _ _ (gTup K 2 _) from pg_tup rfl (pgs_cons (pg_name (i := 1) sc_copied_book.nd rfl (Or.inl rfl)) (pgs_cons (pg_name (i := 2) sc_copied_book.nd rfl (Or.inl rfl)) pgs_nil)))) (fun _ _ _ _ _ => pts_nil) (fun _ _ _ _ _ => (pe_tup (pa_cons (pv 1) (pa_cons (show PE _ _ (tCB (rListOf K) _) from (pe_callTy (T := "list") call_list_of (by rfl) T.n_list (by decide +kernel) (pa_cons (pv 2) pa_nil))) pa_nil))))))), ?_⟩
    obtain ⟨p, vs, rfl, hx, hp⟩ := id hB
    refine p_ret (P := NewLst AltL B0 B) (EvP.mono e0 (EvP.imp (lcG (S := AltL) moA moAL (src_seq (v := .ref p) (Evl.ev_var rfl) hx) hp (by omega) (fun a x => [some (.ref p), some (vI a.1), (match x with | .ref t => (match B0 t with | some (.tup [_, z]) => some z | _ => none) | _ => none)]) (fun _ _ => rfl) (fun a x H1 Q _ e1 r0 ra q => ?_) (fun _ => true) (fun _ _ _ _ => yes_ev) (fun a => a) (fun a x _ ra _ => ?_)) (fun v Ha Hb _ _ h => ?_))) fun v H1 e1 h => k v H1 e1 h
    · obtain ⟨t, z, rfl, ht, hz⟩ := r0
      simp only [ht] at q
      exact go_2 (i := 1) (j := 2) (e1 _ _ ht) q
    · obtain ⟨t, z, rfl, ht, hz⟩ := ra
      simp only [ht]
      refine EvP.imp (evp_tup2 moB (Evl.ev_var rfl) (evp_listS (K := K) moB (Evl.ev_var rfl) hz)) fun v Ha Hb _ _ ⟨t', w, Hn, r, _, m, k1, k2⟩ => ⟨Hn, m, t', w, r, k1, k2⟩
    · rw [filter_true, List.map_id'] at h
      exact h
end
end K26

set_option Elab.async false
set_option linter.all false
set_option maxRecDepth 100000
set_option maxHeartbeats 4000000
namespace Pr
open PySem PySem.Spec PyProof.Rows L2 TM Ep Nw
open Evl (Ex Ev EvT EvA EvL EvU EvO)
theorem Mk_chain {B H0 H2 H3 G Hn : Hp} (m : Mk B H0 H2 G) (e : Ex H0 H2) (h : Mk G H2 H3 Hn) : Mk B H0 H3 Hn := fun b o k => by
  obtain ⟨a, c⟩ := h b o k
  refine ⟨a, ?_⟩
  rcases c with c | c
  · exact (m b o c).2
  · exact .inr (Evl.fresh_back e c)
theorem NewLst_chain {β : Type} {S : Rep β} {B H0 H2 H3 G : Hp} {l : List β} {v : V} (m : Mk B H0 H2 G) (e : Ex H0 H2) (h : NewLst S G l v H2 H3) : NewLst S B l v H0 H3 := by
  obtain ⟨p, vs, Hn, r, f, mk, k, hp⟩ := h
  exact ⟨p, vs, Hn, r, Evl.fresh_back e f, Mk_chain m e mk, k, hp⟩
section
variable {K : PySem.W.Frag} {σ : L2.St} {H : Hp} {te ta tb tc : TE} {ts : TA}
theorem evp_catL {β : Type} {S : Rep β} (mo : Mono S) {v : V} {l m : List β} (h : Ev ta σ H v) (hl : LstOf S H v l) (h2 : EvP tb σ H (NewLst S H m)) (hs : l.length + m.length ≤ 100000) : EvP (tOp rCat ta tb) σ H (NewLst S H (l ++ m)) := fun H1 e Q q =>
  h H1 e _ fun H2 e2 => h2 H2 (e.trans e2) _ fun u H3 e3 ⟨p', vs', Hn', r', fp', mk', k', hp'⟩ => by
    subst r'
    obtain ⟨p, vs, rfl, k, hp⟩ := hl
    have l1 : vs.length = l.length := PySem.Paired.length hp
    have l2 : vs'.length = m.length := PySem.Paired.length hp'
    refine ⟨p, p', vs, vs', rfl, rfl, ((e.trans e2).trans e3) _ _ k, (mk' _ _ k').1, szL (by omega), fun c hc => ?_⟩
    have f1 := Evl.fresh_back (e2.trans e3) hc
    have mk0 : Mk H H1 H3 H := fun b o z => ⟨((e.trans e2).trans e3) _ _ z, .inl z⟩
    obtain ⟨mj, ja, jb⟩ := mk0.join (mk'.back e2)
    obtain ⟨m2, ex2⟩ := mj.put (o := .lst (vs ++ vs')) hc f1
    exact q _ _ ((e2.trans e3).trans (Ex.new hc)) ⟨c, _, _, rfl, f1, m2, upd_same, papp (mo.paired (ja.trans ex2) hp) (mo.paired (jb.trans ex2) hp')⟩
end
def spChkBk (C : Addr) : Sp := fun vs H Q _ => ∃ L p y v B, vs = [.ref p, vI y, v] ∧ CAt C H p L ∧ y < L.length + 1 ∧ (adj L y).length ≤ 100 ∧ BkR H v B ∧ GoodBk (adj L y) B ∧ ∀ H', Ex H H' → Q .non H'
def spChkLd (C : Addr) : Sp := fun vs H Q _ => ∃ L p y v l, vs = [.ref p, vI y, v] ∧ CAt C H p L ∧ y < L.length + 1 ∧ LdR H v l ∧ GoodL (adj L y) l ∧ l.length ≤ 1000 ∧ ∀ H', Ex H H' → Q .non H'
def spStands (C : Addr) : Sp := fun vs H Q _ => ∃ L vt p y v B u l, vs = [.ref p, vI y, v, u] ∧ CAt C H p L ∧ Good vt L ∧ y ∈ yardsL L ∧ BkR H v B ∧ GoodBk (adj L y) B ∧ LdR H u l ∧ GoodL (adj L y) l ∧ l.length ≤ 1000 ∧ ∀ H', Ex H H' → Q (.bl (standsB B l)) H'
def spIsLoad (C : Addr) : Sp := fun vs H Q _ => ∃ L vt p y u l, vs = [.ref p, vI y, u] ∧ CAt C H p L ∧ Good vt L ∧ y ∈ yardsL L ∧ LdR H u l ∧ GoodL (adj L y) l ∧ l.length ≤ 1000 ∧ ∀ H', Ex H H' → Q (.bl true) H'
def spWithCart (C : Addr) : Sp := fun vs H Q _ => ∃ B L vt p y u l o t, Ex B H ∧ vs = [.ref p, vI y, u, vI o, vI t] ∧ CAt C H p L ∧ Good vt L ∧ y ∈ yardsL L ∧ LdR B u l ∧ GoodL (adj L y) l ∧ l.length ≤ 60 ∧ (o, t) ∈ pairsN (adj L y) ∧ SmL (others l o t ++ [(o, t, carts l (some o) (some t) + 1)]) ∧ ∀ z H', Ex H H' → NewLst EntR B (addL l o t) z H H' → Q z H'
def spAtMost (C : Addr) : Sp := fun vs H Q _ => ∃ L vt p y u l v m, vs = [.ref p, vI y, u, v] ∧ CAt C H p L ∧ Good vt L ∧ y ∈ yardsL L ∧ LdR H u l ∧ GoodL (adj L y) l ∧ l.length ≤ 1000 ∧ LdR H v m ∧ GoodL (adj L y) m ∧ m.length ≤ 1000 ∧ ∀ H', Ex H H' → Q (.bl (withinL l m)) H'
end Pr
namespace K26
open PySem PySem.Spec PyProof.Rows L2 TM Pr Ep Nw
open Evl (Ex Ev EvT EvA EvL EvU EvO)
section
variable {P : Program} {w : World} {K : PySem.W.Frag} {mg : Str → Option Value} {base : Heap} {A : Adr}
theorem ok_added (T : Txt K mg A) : FnOk P w K mg base CX0 2 A.added A.added_fd ["load", "origin", "target"] spAdded := by
  refine T.F_added.ok sc_added (fun vs H Q E h => ?_) (fun cdv A' outer s H vs Q E hr h => ?_)
  · obtain ⟨B, v, l, o, t, _, rfl, _⟩ := h
    rfl
  · obtain ⟨B, v, l, o, t, eB, rfl, hl, hs, sm, k⟩ := h
    refine ⟨_, (pss_cons (ps_set (i := 3) sc_added.nd rfl (Or.inl rfl) (pe_op op_add (pe_call (ok_carts_of T) (hr.mono (by decide)) (by rfl) T.m_carts_of T.F_carts_of.kp T.b_carts_of .nil pass0 (pa_cons (pv 0) (pa_cons (pv 1) (pa_cons (pv 2) pa_nil)))) pe_int)) (pss_cons (ps_setLc (i := 4) (own := [("entry", 5)]) rfl sc_added.nd rfl rfl (sw_true rfl rfl rfl (by decide +kernel)) (Ei.pi_ei (show PI _ _ _ (iList K _) from pi_list (pv 0)) (show PI _ _ _ (iTup K _) from pi_tup (pv 0))) (blkOk_by (N := n_added) (sc := defScope s_added) (by decide +kernel)) (fun _ _ _ _ _ => (pg_name (i := 5) sc_added.nd rfl (Or.inl rfl))) (fun _ _ _ _ _ => (pts_one (show PT _ _ (tTest (tOp (rNeD K) _ _)) from pt_cmpR (op_neD hr.units) (pe_tup (pa_cons (show PE _ _ (tOp (rIxT K) _ _) from pe_ix ix_tup (pv 5) pe_int (fun _ _ => rfl)) (pa_cons (show PE _ _ (tOp (rIxT K) _ _) from pe_ix ix_tup (pv 5) pe_int (fun _ _ => rfl)) pa_nil))) (pe_tup (pa_cons (pv 1) (pa_cons (pv 2) pa_nil))) (nomark _)))) (fun _ _ _ _ _ => (pv 5))) (pss_one (ps_ret (show PE _ _ (tCB (rSortU K 3 2048) _) from (pe_callB (id := "sorted") (cr_sortT (d := 3) (B := 2048) (by decide)) (by rfl) T.n_sorted (by decide +kernel) (pa_cons (pe_op op_cat (pv 4) (pe_lst (pa_cons (pe_tup (pa_cons (pv 1) (pa_cons (pv 2) (pa_cons (pv 3) pa_nil)))) pa_nil))) pa_nil))))))), ?_⟩
    refine p_asg (P := Is (vI (carts l (some o) (some t) + 1))) (evp_ev (Evl.ev_is (Evl.ev_op (ev_carts (o := some o) (t := some t) (vb3 rfl rfl rfl) (moLd _ _ _ _ eB hl) (by omega)) Evl.ev_c rv_I0P) rfl)) fun v1 H1 e1 hv => ?_
    subst hv
    show tSeq (tAsg _ _) _ _ ([some v, some (vI o), some (vI t), some (vI (carts l (some o) (some t) + 1)), none, none]) H1
    obtain ⟨p, vs, rfl, hx, hp⟩ := id hl
    refine p_asg (EvP.mono (eB.trans e1) (lcG (S := EntR) moE moE (src_seq (v := .ref p) (Evl.ev_var rfl) hx) hp (by omega) (fun e x => [some (.ref p), some (vI o), some (vI t), some (vI (carts l (some o) (some t) + 1)), none, some x]) (fun _ _ => rfl) (fun _ _ _ _ _ _ _ _ q => q) (fun e => !(decide (e.1 = o) && decide (e.2.1 = t))) (fun e x _ re => ?_) (fun e => e) (fun e x _ re _ => ?_))) fun v2 H2 e2 hv => ?_
    · obtain ⟨t', rfl, h⟩ := re
      have ix : ∀ {j : Nat} {z : V}, ([vI e.1, vI e.2.1, vI e.2.2] : List V)[j]? = some z → Ev (tOp (rIxT K) (tVar 5) (tC (.int (j : Int)))) [some (.ref p), some (vI o), some (vI t), some (vI (carts l (some o) (some t) + 1)), none, some (.ref t')] B z := fun g => Evl.ev_op (Evl.ev_var rfl) Evl.ev_c (Evl.rv_ixT (Evl.st_of h) (at_of rfl g))
      exact Evl.et_test (Evl.ev_opUU (Evl.eu_tup (vs := [vI e.1, vI e.2.1]) (Evl.ea_cons (ix (j := 0) rfl) (Evl.ea_cons (ix (j := 1) rfl) Evl.ea_nil)) (by show 2 ≤ 100000; decide)) (Evl.eu_tup (vs := [vI o, vI t]) (vb2 rfl rfl) (by show 2 ≤ 100000; decide)) fun p1 p2 H3 k1 k2 _ => rv_neT2 k1 k2)
    · exact (evp_ev (Evl.ev_var rfl)).imp fun z Ha Hb ea eb h => by
        cases h
        exact newR_old re (ea.trans eb)
    rw [List.map_id'] at hv
    obtain ⟨q, ws, G, rfl, fq, mG, kq, hws⟩ := hv
    have x2 := e1.trans e2
    show tRet _ _ ([some (.ref p), some (vI o), some (vI t), some (vI (carts l (some o) (some t) + 1)), some (.ref q), none]) H2
    have lo : (others l o t).length ≤ l.length := (others_sub l o t).length_le
    refine p_ret (EvP.mono mG.ex (evp_sort3 (K := K) (l := others l o t ++ [(o, t, carts l (some o) (some t) + 1)]) (evp_catL moE (Evl.ev_var rfl) ⟨q, ws, rfl, kq, hws⟩ (evp_lst1 moE (evp_tup3 (Evl.ev_var rfl) (Evl.ev_var rfl) (Evl.ev_var rfl))) (by simp; omega)) (by simp; omega) sm)) fun z H3 e3 hz => ?_
    exact k z H3 (x2.trans e3) (NewLst_chain (mG.back e1) x2 hz)
theorem ok_check_book (T : Txt K mg A) : FnOk P w K mg base CX0 7 A.check_book A.check_book_fd ["country", "yard", "book"] (spChkBk A.Country) := by
  refine T.F_check_book.ok sc_check_book (fun vs H Q E h => ?_) (fun cdv A' outer s H vs Q E hr h => ?_)
  · obtain ⟨L, p, y, v, B, rfl, _⟩ := h
    rfl
  · obtain ⟨L, p, y, v, B, rfl, hC, hy, hN, hB, G, k⟩ := h
    refine ⟨_, (pss_one (ps_if (pt_not (pt_val (pe_call (ok_is_book_of T) (hr.mono (by decide)) (by rfl) T.m_is_book_of T.F_is_book_of.kp T.b_is_book_of .nil pass0 (pa_cons (pe_meth (pv 0) T.cl_Country T.me_Country_neighbours (ok_Country_neighbours T) (hr.mono (by decide)) T.b_Country_neighbours .nil pass0 (pa_cons (pv 1) pa_nil)) (pa_cons (pv 2) pa_nil))))) (pss_one ps_never) pss_nil)), ?_⟩
    refine p_skip1 (Evl.et_is (Evl.et_not (a := true) (Evl.et_B (ev_evp (evp_call2 (evp_nbsM (K := K) (Evl.ev_var rfl) (Evl.ev_var rfl) hC hy) (Evl.ev_var rfl) (fun v1 Ha Hb Hc ea eb ec hv Q q => ?_))))) rfl) fun H1 e1 => k H1 e1
    obtain ⟨r, rfl, _, hr⟩ := hv
    exact ⟨r, adj L y, v, B, rfl, ec _ _ hr, hN, moBk _ _ _ _ ((ea.trans eb).trans ec) hB, G, fun H6 e6 => q _ H6 e6 rfl⟩
theorem ok_check_load (T : Txt K mg A) : FnOk P w K mg base CX0 6 A.check_load A.check_load_fd ["country", "yard", "load"] (spChkLd A.Country) := by
  refine T.F_check_load.ok sc_check_load (fun vs H Q E h => ?_) (fun cdv A' outer s H vs Q E hr h => ?_)
  · obtain ⟨L, p, y, v, l, rfl, _⟩ := h
    rfl
  · obtain ⟨L, p, y, v, l, rfl, hC, hy, hl, G, hs, k⟩ := h
    refine ⟨_, (pss_one (ps_if (pt_not (pt_val (pe_call (ok_is_load_of T) (hr.mono (by decide)) (by rfl) T.m_is_load_of T.F_is_load_of.kp T.b_is_load_of .nil pass0 (pa_cons (pe_meth (pv 0) T.cl_Country T.me_Country_neighbours (ok_Country_neighbours T) (hr.mono (by decide)) T.b_Country_neighbours .nil pass0 (pa_cons (pv 1) pa_nil)) (pa_cons (pv 2) pa_nil))))) (pss_one ps_never) pss_nil)), ?_⟩
    refine p_skip1 (Evl.et_is (Evl.et_not (a := true) (Evl.et_B (ev_evp (evp_call2 (evp_nbsM (K := K) (Evl.ev_var rfl) (Evl.ev_var rfl) hC hy) (Evl.ev_var rfl) (fun v1 Ha Hb Hc ea eb ec hv Q q => ?_))))) rfl) fun H1 e1 => k H1 e1
    obtain ⟨r, rfl, _, hr⟩ := hv
    exact ⟨r, adj L y, v, l, rfl, ec _ _ hr, moLd _ _ _ _ ((ea.trans eb).trans ec) hl, G, hs, fun H6 e6 => q _ H6 e6 rfl⟩
theorem q_cy {σ : L2.St} {H : Hp} {ts : TA} {D : Ends} {tz : TS} {L : Lanes} {C p : Addr} {y : Nat} (h : EvA ts σ H [.ref p, vI y]) (hC : CAt C H p L) (hy : y ∈ yardsL L) (k : ∀ H1, Ex H H1 → tz D σ H1) : tSeq (tDrop (tCall (spCheckY C) [] E0 ts)) tz D σ H :=
  p_drop (P := Is .non) (evp_callA h (fun H2 e2 Q q => ⟨L, p, y, rfl, hC.ex e2, hy, fun H3 e3 => q _ H3 e3 rfl⟩) (fun _ _ _ _ _ _ _ h => h)) fun _ H1 e1 _ => k H1 e1
theorem q_cb {σ : L2.St} {H : Hp} {ts : TA} {D : Ends} {tz : TS} {L : Lanes} {C p : Addr} {y : Nat} {v : V} {B : Bk} {vt : List Nat} (h : EvA ts σ H [.ref p, vI y, v]) (hC : CAt C H p L) (hG : Good vt L) (hy : y ∈ yardsL L) (hB : BkR H v B) (G : GoodBk (adj L y) B) (k : ∀ H1, Ex H H1 → tz D σ H1) : tSeq (tDrop (tCall (spChkBk C) [] E0 ts)) tz D σ H :=
  p_drop (P := Is .non) (evp_callA h (fun H2 e2 Q q => ⟨L, p, y, v, B, rfl, hC.ex e2, (mem_yards.mp hy).1, by have := hG.deg y; omega, moBk _ _ _ _ e2 hB, G, fun H3 e3 => q _ H3 e3 rfl⟩) (fun _ _ _ _ _ _ _ h => h)) fun _ H1 e1 _ => k H1 e1
theorem q_cl {σ : L2.St} {H : Hp} {ts : TA} {D : Ends} {tz : TS} {L : Lanes} {C p : Addr} {y : Nat} {v : V} {l : Ld} (h : EvA ts σ H [.ref p, vI y, v]) (hC : CAt C H p L) (hy : y ∈ yardsL L) (hl : LdR H v l) (G : GoodL (adj L y) l) (hs : l.length ≤ 1000) (k : ∀ H1, Ex H H1 → tz D σ H1) : tSeq (tDrop (tCall (spChkLd C) [] E0 ts)) tz D σ H :=
  p_drop (P := Is .non) (evp_callA h (fun H2 e2 Q q => ⟨L, p, y, v, l, rfl, hC.ex e2, (mem_yards.mp hy).1, moLd _ _ _ _ e2 hl, G, hs, fun H3 e3 => q _ H3 e3 rfl⟩) (fun _ _ _ _ _ _ _ h => h)) fun _ H1 e1 _ => k H1 e1
theorem ev_standsIn {σ : L2.St} {H : Hp} {ts : TA} {v u : V} {l : Ld} {B : Bk} {N : List Nat} (h : EvA ts σ H [v, u]) (hl : LdR H v l) (hs : l.length ≤ 1000) (hB : BkR H u B) (G : GoodBk N B) : Ev (tCall spStandsIn [] E0 ts) σ H (.bl (standsB B l)) :=
  ev_evp (evp_callA h (fun H2 e2 Q q => ⟨v, l, u, B, rfl, moLd _ _ _ _ e2 hl, hs, moBk _ _ _ _ e2 hB, by have := G.most; omega, fun a ha => by have := (G.as_ a ha).few; omega, fun H3 e3 => q _ H3 e3 rfl⟩) (fun _ _ _ _ _ _ _ h => h))
theorem ev_isNb {σ : L2.St} {H : Hp} {ts : TA} {C p : Addr} {L : Lanes} {i j : Nat} (h : EvA ts σ H [.ref p, vI i, vI j]) (hC : CAt C H p L) (hi : i < L.length + 1) : Ev (tCall (spIsNb C) [] E0 ts) σ H (.bl (decide (j ∈ adj L i))) :=
  ev_evp (evp_callA h (fun H2 e2 Q q => ⟨L, p, i, j, rfl, hC.ex e2, hi, fun H3 e3 => q _ H3 e3 rfl⟩) (fun _ _ _ _ _ _ _ h => h))
theorem ok_is_at_most (T : Txt K mg A) : FnOk P w K mg base CX0 7 A.is_at_most A.is_at_most_fd ["country", "yard", "load", "other"] (spAtMost A.Country) := by
  refine T.F_is_at_most.ok sc_is_at_most (fun vs H Q E h => ?_) (fun cdv A' outer s H vs Q E hr h => ?_)
  · obtain ⟨L, vt, p, y, u, l, v, m, rfl, _⟩ := h
    rfl
  · obtain ⟨L, vt, p, y, u, l, v, m, rfl, hC, hG, hy, hl, Gl, hs, hm, Gm, hms, k⟩ := h
    refine ⟨_, (pss_cons (ps_expr (pe_call (ok_check_country_and_yard T) (hr.mono (by decide)) (by rfl) T.m_check_country_and_yard T.F_check_country_and_yard.kp T.b_check_country_and_yard .nil pass0 (pa_cons (pv 0) (pa_cons (pv 1) pa_nil)))) (pss_cons (ps_expr (pe_call (ok_check_load T) (hr.mono (by decide)) (by rfl) T.m_check_load T.F_check_load.kp T.b_check_load .nil pass0 (pa_cons (pv 0) (pa_cons (pv 1) (pa_cons (pv 2) pa_nil))))) (pss_cons (ps_expr (pe_call (ok_check_load T) (hr.mono (by decide)) (by rfl) T.m_check_load T.F_check_load.kp T.b_check_load .nil pass0 (pa_cons (pv 0) (pa_cons (pv 1) (pa_cons (pv 3) pa_nil))))) (pss_one (ps_ret (pe_call (ok_is_within T) (hr.mono (by decide)) (by rfl) T.m_is_within T.F_is_within.kp T.b_is_within .nil pass0 (pa_cons (pv 2) (pa_cons (pv 3) pa_nil)))))))), ?_⟩
    refine q_cy (vb2 rfl rfl) hC hy fun H1 e1 => q_cl (vb3 rfl rfl rfl) (hC.ex e1) hy (moLd _ _ _ _ e1 hl) Gl hs fun H2 e2 => ?_
    have x2 := e1.trans e2
    refine q_cl (vb3 rfl rfl rfl) (hC.ex x2) hy (moLd _ _ _ _ x2 hm) Gm hms fun H3 e3 => ?_
    have x3 := x2.trans e3
    refine p_ret (P := Is (.bl (withinL l m))) (evp_callA (vb2 rfl rfl) (fun H5 e5 Q q => ⟨u, l, v, m, rfl, moLd _ _ _ _ (x3.trans e5) hl, hs, moLd _ _ _ _ (x3.trans e5) hm, hms, Gm.srt, fun H6 e6 => q _ H6 e6 rfl⟩) (fun _ _ _ _ _ _ _ h => h)) fun z H4 e4 hz => ?_
    subst hz
    exact k H4 (x3.trans e4)
end
end K26
set_option Elab.async false
set_option linter.all false
set_option maxRecDepth 100000
set_option maxHeartbeats 4000000
/-! a comprehension of two clauses: the second one walks a list that is told anew, with its items -/
namespace Nw
open PySem PySem.Spec PyProof.Rows L2 Ep
open Evl (Ex Ev EvT EvA EvL EvU)
section
variable {K : PySem.W.Frag} {σ : L2.St} {H : Hp}
/-- [b for a in L for b in M a] -/
theorem lcFlat {α γ : Type} [Inhabited α] {R : Rep α} {S : Rep γ} (mR : Mono R) (mS : Mono S) {B : Hp} (eB : Ex B H) {wi : TI} {tl1 : TE} {g g1 : TG} {te : TE} {vs vs1 : List Nat} {ls : List V} {L : List α} (M : α → List γ) (s : Src wi σ H ls.length (fun i v => ls[i]? = some v)) (hp : Paired (R H) ls L) (k : Nat) (hn : L.length * k ≤ 50000) (hk : ∀ a ∈ L, (M a).length ≤ k)
    (st : α → V → L2.St) (hw : ∀ a x, wipe (st a x) vs = wipe σ vs) (hg : ∀ a x H1 Q, a ∈ L → Ex H H1 → R H1 x a → Q (st a x) H1 → g x (wipe σ vs) H1 Q)
    (s1 : ∀ a x, a ∈ L → R H x a → EvP tl1 (st a x) H (NewLst S B (M a)))
    (st1 : α → V → V → L2.St) (hw1 : ∀ a x y, wipe (st1 a x y) vs1 = wipe (st a x) vs1) (hg1 : ∀ a x y H1 Q, a ∈ L → Ex H H1 → Q (st1 a x y) H1 → g1 y (wipe (st a x) vs1) H1 Q)
    (he : ∀ a x y, a ∈ L → Ev te (st1 a x y) H y) :
    EvP (tLc2 wi g tYes (iList K tl1) g1 tYes te vs vs1) σ H (NewLst S B (L.flatMap M)) := fun H0 e0 Q q => by
  have hll : ls.length = L.length := PySem.Paired.length hp
  have at_ : ∀ {i : Nat} {x : V} {H1 : Hp}, ls[i]? = some x → Ex H H1 → R H1 x (L.getD i default) ∧ L.getD i default ∈ L ∧ L[i]? = some (L.getD i default) := fun {i x H1} hx e => by
    obtain ⟨q, hq, r⟩ := pix hp hx
    have : L.getD i default = q := by rw [List.getD_eq_getElem?_getD, hq]; rfl
    exact ⟨this ▸ mR _ _ _ _ e r, this ▸ List.mem_of_getElem? hq, this ▸ hq⟩
  refine s H0 e0 _ fun J H1 G e1 hG hW D hD => ?_
  have fD := Evl.fresh_back e1 hD
  have h0 : B D = none := Evl.fresh_back eB (Evl.fresh_back e0 fD)
  let Part : List γ → Hp → Prop := fun cs H' => ∃ Hn ys, Ex H1 H' ∧ Mk B H0 H' Hn ∧ Hn D = none ∧ H' D = some (.lst ys) ∧ Paired (S Hn) ys cs
  have pE : ∀ {cs Ha Hb}, Ex Ha Hb → Part cs Ha → Part cs Hb := fun e ⟨Hn, ys, a, m, d, h, p⟩ => ⟨Hn, ys, a.trans e, m.on e, d, e _ _ h, p⟩
  have bound : ∀ (i : Nat), (((L.take i).flatMap M)).length ≤ i * k := by
    intro i
    induction i with
    | zero => simp
    | succ i ih =>
      by_cases hi : i < L.length
      · have hx : L[i]? = some L[i] := List.getElem?_eq_getElem hi
        rw [tk_more hx, List.flatMap_append, List.length_append]
        have h2 : (List.flatMap M [L[i]]).length ≤ k := by
          rw [List.flatMap_cons, List.flatMap_nil, List.append_nil]
          exact hk _ (List.getElem_mem hi)
        rw [Nat.succ_mul]
        omega
      · have e2 : L.take (i + 1) = L.take i := by rw [List.take_of_length_le (by omega), List.take_of_length_le (by omega)]
        rw [e2, Nat.succ_mul]
        omega
  refine ⟨fun i m H' => m = ls.length - i ∧ i ≤ ls.length ∧ Part ((L.take i).flatMap M) H', ⟨ls.length, by simp, Nat.zero_le _, B, [], Ex.new hD, fun b o z => ⟨Ex.new hD _ _ (e1 _ _ (e0 _ _ (eB _ _ z))), .inl z⟩, h0, upd_same, .nil⟩, ?_⟩
  rintro i m Ha ⟨rfl, hin, hP⟩
  have hx1 : Ex H1 Ha := by
    obtain ⟨_, _, a, _⟩ := hP
    exact a
  by_cases hi : i < ls.length
  · refine .inr ⟨hW.goes i Ha hi (hG _ hx1), fun H' => Part ((L.take (i + 1)).flatMap M) H', fun H' p' => ⟨ls.length - (i + 1), by omega, rfl, hi, p'⟩, fun x Hb y => ?_⟩
    obtain ⟨rfl, hX⟩ := hW.yields i Ha x Hb hi (hG _ hx1) y
    have eA : Ex H Hb := (e0.trans e1).trans hx1
    obtain ⟨r, mem, hat⟩ := at_ hX eA
    have r0 := (at_ hX (Ex.refl H)).1
    generalize L.getD i default = a at r r0 mem hat
    refine hg a x Hb _ mem eA r ⟨hw _ _, ?_⟩
    have step : (L.take (i + 1)).flatMap M = ((L.take i).flatMap M) ++ M a := by
      rw [tk_more hat, List.flatMap_append, List.flatMap_cons, List.flatMap_nil, List.append_nil]
    rw [step]
    have bd := bound i
    have bk := hk a mem
    have hik : i * k + k ≤ 50000 := by
      have : (i + 1) * k ≤ L.length * k := Nat.mul_le_mul_right k (by omega)
      rw [Nat.succ_mul] at this
      omega
    generalize (L.take i).flatMap M = C at hP step bd ⊢
    refine yes_go ?_
    dsimp only
    rw [if_pos rfl]
    refine s1 a x mem r0 Hb eA _ fun pv Hc ec hpv => ?_
    obtain ⟨p1, ms, Hm, rfl, fp1, mk1, hm1, hpm⟩ := hpv
    have hp1 : Hc p1 = some (.lst ms) := (mk1 _ _ hm1).1
    have hml : ms.length = (M a).length := PySem.Paired.length hpm
    obtain ⟨Hn, ys0, a1, mm, d, h, p⟩ := pE ec hP
    have hbD : Hb D ≠ none := by
      obtain ⟨_, _, _, _, _, z, _⟩ := hP
      rw [z]
      exact fun w => nomatch w
    have dv : Hm D = none := by
      cases c : Hm D with
      | none => rfl
      | some o =>
        rcases (mk1 D o c).2 with z | z
        · rw [h0] at z; cases z
        · exact absurd z hbD
    obtain ⟨mj, ja, jb⟩ := mm.join (mk1.back (e1.trans hx1))
    have dj : join Hn Hm D = none := by
      unfold join
      rw [d]
      exact dv
    have p' := mS.paired ja p
    have hpm' := mS.paired jb hpm
    have hj1 := jb _ _ hm1
    generalize join Hn Hm = Hj at mj dj p' hpm' hj1
    refine ⟨p1, rfl, ⟨_, Evl.sq_of hp1⟩, ?_⟩
    have hW1 := walk_list (K := K) (a := p1) (xs := ms)
    refine ⟨fun j l H' => l = ms.length - j ∧ j ≤ ms.length ∧ ∃ ys, Ex H1 H' ∧ Mk B H0 H' Hj ∧ H' D = some (.lst ys) ∧ Paired (S Hj) ys (C ++ (M a).take j), ⟨ms.length, by simp, Nat.zero_le _, ys0, a1, mj, h, by simpa using p'⟩, ?_⟩
    rintro j l Hd ⟨rfl, hjn, ys, a2, m2, h2, p2⟩
    have hd1 : Hd p1 = some (.lst ms) := (m2 _ _ hj1).1
    by_cases hj : j < ms.length
    · refine .inr ⟨hW1.goes j Hd hj (Evl.sq_of hd1), fun H' => ∃ ys, Ex H1 H' ∧ Mk B H0 H' Hj ∧ H' D = some (.lst ys) ∧ Paired (S Hj) ys (C ++ (M a).take (j + 1)), fun H' p' => ⟨ms.length - (j + 1), by omega, rfl, hj, p'⟩, fun y He z => ?_⟩
      obtain ⟨rfl, hY⟩ := hW1.yields j Hd y He hj (Evl.sq_of hd1) z
      obtain ⟨b, hb, rb⟩ := pix hpm' hY
      have eB : Ex H He := (e0.trans e1).trans a2
      refine hg1 a x y He _ mem eB ⟨hw1 _ _ _, ?_⟩
      refine yes_go ?_
      dsimp only
      rw [if_pos rfl]
      refine he a x y mem He eB _ fun Hg eg => ?_
      have hlen : ys.length ≤ i * k + k := by
        rw [PySem.Paired.length p2, List.length_append]
        have h2 : ((M a).take j).length ≤ (M a).length := by rw [List.length_take]; omega
        omega
      refine ⟨ys, eg _ _ h2, Nat.lt_of_le_of_lt hlen (Nat.lt_of_le_of_lt hik (by decide)), ys ++ [y], Ex.mut (a2.trans eg) hD, fun c o z => ?_, upd_same, ?_⟩
      · have n : c ≠ D := fun w => by rw [w, dj] at z; cases z
        rw [upd_ne n]
        exact (m2.on eg) c o z
      · rw [tk_more hb, ← List.append_assoc]
        exact papp p2 (.cons rb .nil)
    · have e : j = ms.length := by omega
      subst e
      rw [hml, List.take_length] at p2
      exact .inl ⟨hW1.stops Hd (Evl.sq_of hd1), Hj, ys, a2, m2, dj, h2, p2⟩
  · have e : i = ls.length := by omega
    subst e
    obtain ⟨Hn, ys, a, mm, d, h, p⟩ := hP
    rw [hll, List.take_length] at p
    refine .inl ⟨hW.stops Ha (hG _ hx1), q (.ref D) Ha (e1.trans a) ⟨D, ys, upd Hn D (.lst ys), rfl, fD, fun b o z => ?_, upd_same, mS.paired (Ex.new d) p⟩⟩
    by_cases n : b = D
    · subst n
      rw [upd_same] at z
      exact ⟨h.trans z, .inr fD⟩
    · rw [upd_ne n] at z
      exact mm b o z
/-- [F a for a in L if f a], told of a base -/
theorem lcGB {α β : Type} [Inhabited α] {R : Rep α} {S : Rep β} (mR : Mono R) (mS : Mono S) {B : Hp} (eB : Ex B H) {wi : TI} {g : TG} {tt : TT} {te : TE} {vs : List Nat} {ls : List V} {L : List α} (s : Src wi σ H ls.length (fun i v => ls[i]? = some v)) (hp : Paired (R H) ls L) (hn : L.length ≤ 50000) (st : α → V → L2.St) (hw : ∀ a x, wipe (st a x) vs = wipe σ vs)
    (hg : ∀ a x H1 Q, a ∈ L → Ex H H1 → R H x a → R H1 x a → Q (st a x) H1 → g x (wipe σ vs) H1 Q) (f : α → Bool)
    (ht : ∀ a x, a ∈ L → R H x a → EvT tt (st a x) H (f a)) (F : α → β)
    (he : ∀ a x, a ∈ L → R H x a → f a = true → EvP te (st a x) H (NewR S B (F a))) :
    EvP (tLc wi g tt te vs) σ H (NewLst S B ((L.filter f).map F)) := by
  have hll : ls.length = L.length := PySem.Paired.length hp
  have at_ : ∀ {i : Nat} {x : V} {H1 : Hp}, ls[i]? = some x → Ex H H1 → R H1 x (L.getD i default) ∧ L.getD i default ∈ L ∧ L[i]? = some (L.getD i default) := fun {i x H1} hx e => by
    obtain ⟨q, hq, r⟩ := pix hp hx
    have : L.getD i default = q := by rw [List.getD_eq_getElem?_getD, hq]; rfl
    exact ⟨this ▸ mR _ _ _ _ e r, this ▸ List.mem_of_getElem? hq, this ▸ hq⟩
  refine EvP.imp (lcJ s (by omega) (fun i x => st (L.getD i default) x) (fun _ _ => hw _ _) (fun Hs D i ys H' => ∃ Hn, Mk B Hs H' Hn ∧ Hn D = none ∧ Paired (S Hn) ys (((L.take i).filter f).map F)) (fun i x H1 Q e hi hx q => ?_) (fun i => f (L.getD i default)) (fun i x H1 e hi hx => ?_) (fun i => NewR S B (F (L.getD i default)))
    (fun i x H1 e hi hx hf => ?_) (fun Hs D H1 e e2 hD => ?_) (fun Hs D i ys Ha Hb e h => ?_) (fun Hs D i ys v Ha Hb e0 es hs eab hD hi hf h hv xs => ?_) (fun Hs D i ys Ha e hi hf h => ?_)) (fun v Ha Hb ea eb h => ?_)
  · obtain ⟨r, m, _⟩ := at_ hx e
    exact hg _ _ _ _ m e (at_ hx (Ex.refl H)).1 r q
  · obtain ⟨r, m, _⟩ := at_ hx (Ex.refl H)
    exact (ht _ _ m r).mono e
  · obtain ⟨r, m, _⟩ := at_ hx (Ex.refl H)
    exact (he _ _ m r hf).mono e
  · exact ⟨B, fun b o k => ⟨e2 _ _ (e _ _ (eB _ _ k)), .inl k⟩, Evl.fresh_back eB (Evl.fresh_back e hD), .nil⟩
  · obtain ⟨Hn, m, d, p⟩ := h
    exact ⟨Hn, m.on e, d, p⟩
  · obtain ⟨Hn, m, d, p⟩ := h
    obtain ⟨Hv, mv, sv⟩ := hv
    have h0 : B D = none := Evl.fresh_back eB (Evl.fresh_back e0 hs)
    have dv : Hv D = none := by
      cases c : Hv D with
      | none => rfl
      | some o =>
        rcases (mv D o c).2 with z | z
        · rw [h0] at z; cases z
        · rw [hD] at z; cases z
    have mv2 : Mk B Hs Hb Hv := mv.back es
    obtain ⟨mj, ja, jb⟩ := (m.on eab).join mv2
    have dj : join Hn Hv D = none := by
      unfold join
      rw [d]
      exact dv
    refine ⟨join Hn Hv, fun b o k => ?_, dj, ?_⟩
    · have n : b ≠ D := fun z => by rw [z, dj] at k; cases k
      rw [upd_ne n]
      exact mj b o k
    · have hi2 : i < L.length := by omega
      have hx : L[i]? = some (L.getD i default) := by rw [List.getD_eq_getElem?_getD, List.getElem?_eq_getElem hi2]; rfl
      rw [tk_more hx, List.filter_append, List.map_append]
      refine papp (mS.paired ja p) ?_
      have ef : (List.filter f [L.getD i default]).map F = [F (L.getD i default)] := by
        rw [List.filter_cons, if_pos hf]
        rfl
      rw [ef]
      exact .cons (mS _ _ _ _ jb sv) .nil
  · obtain ⟨Hn, m, d, p⟩ := h
    refine ⟨Hn, m, d, ?_⟩
    have hi2 : i < L.length := by omega
    have hx : L[i]? = some (L.getD i default) := by rw [List.getD_eq_getElem?_getD, List.getElem?_eq_getElem hi2]; rfl
    rw [tk_more hx, List.filter_append, List.map_append]
    have ef : (List.filter f [L.getD i default]).map F = [] := by
      rw [List.filter_cons, if_neg (by rw [hf]; decide)]
      rfl
    rw [ef, List.append_nil]
    exact p
  · obtain ⟨D, ys, rfl, fD, hD, _, Hn, m, d, p⟩ := h
    rw [hll, List.take_length] at p
    refine ⟨D, ys, upd Hn D (.lst ys), rfl, fD, fun b o k => ?_, upd_same, mS.paired (Ex.new d) p⟩
    by_cases n : b = D
    · subst n
      rw [upd_same] at k
      exact ⟨hD.trans k, .inr fD⟩
    · rw [upd_ne n] at k
      exact m b o k
/-- a comprehension over a list that is told anew, what comes of it told of the time ahead of both -/
theorem evp_lcN {tl : TE} {g : TG} {tt : TT} {te : TE} {vs : List Nat} {P P' : VP} {P2 : V → Hp → Hp → VP} (h : EvP tl σ H P) (k : ∀ v H1 H2, Ex H H1 → Ex H1 H2 → P v H1 H2 → EvP (tLc (iList K (tC v)) g tt te vs) σ H2 (P2 v H1 H2))
    (hP : ∀ v z H1 H2 H3, Ex H H1 → Ex H1 H2 → P v H1 H2 → Ex H2 H3 → P2 v H1 H2 z H2 H3 → P' z H1 H3) : EvP (tLc (iList K tl) g tt te vs) σ H P' := fun H1 e Q q =>
  h H1 e _ fun v H2 e2 p => k v H1 H2 e e2 p H2 (Ex.refl _) Q fun z H3 e3 p3 => q z H3 (e2.trans e3) (hP v z H1 H2 H3 e e2 p e3 p3)
end
end Nw
set_option linter.all false
/-! loads of some pairs that stand: told pair by pair, told by going on from the empty one. Plain Lean. -/
namespace TM
def sm6 (B : Bk) : Prop := ∀ a ∈ B, a.1 ≤ 6
theorem stands_carts {B : Bk} (g : sm6 B) {l : Ld} (h : standsB B l = true) : carts l none none ≤ 6 := by
  obtain ⟨a, ha, s⟩ := List.any_eq_true.mp h
  unfold standsA at s
  rw [Bool.and_eq_true] at s
  exact Nat.le_trans (of_decide_eq_true s.1) (g a ha)
/-- n carts of one pair behind the others -/
def put (l : Ld) (p : Nat × Nat) : Nat → Ld
  | 0 => l
  | n + 1 => l ++ [(p.1, p.2, n + 1)]
def many (B : Bk) (l : Ld) (p : Nat × Nat) : Nat := ((List.range 7).takeWhile fun n => standsB B (put l p (n + 1))).length
def withP (B : Bk) (l : Ld) (p : Nat × Nat) : List Ld := (List.range (many B l p)).map fun i => put l p (i + 1)
def standP (B : Bk) : List (Nat × Nat) → List Ld → List Ld
  | [], ls => ls
  | p :: ps, ls => standP B ps (ls ++ ls.flatMap fun l => withP B l p)
theorem takeW {α : Type} (f : α → Bool) : ∀ (l : List α) (i : Nat) (x : α), l[i]? = some x → i < (l.takeWhile f).length → f x = true
  | [], _, _, h, _ => by simp at h
  | a :: l, i, x, h, k => by
    rw [List.takeWhile_cons] at k
    split at k
    · rename_i c
      cases i with
      | zero => simp at h; rw [← h]; exact c
      | succ i => exact takeW f l i x (by simpa using h) (by simpa using k)
    · simp at k
theorem takeW_end {α : Type} (f : α → Bool) : ∀ (l : List α) (x : α), l[(l.takeWhile f).length]? = some x → f x = false
  | [], _, h => by simp at h
  | a :: l, x, h => by
    rw [List.takeWhile_cons] at h
    split at h
    · exact takeW_end f l x (by simpa using h)
    · rename_i c
      simp at h
      rw [← h]
      cases q : f a with
      | true => exact absurd q c
      | false => rfl
theorem takeW_len {α : Type} (f : α → Bool) (l : List α) : (l.takeWhile f).length ≤ l.length := (List.takeWhile_sublist f).length_le
theorem carts_put (l : Ld) (p : Nat × Nat) (n : Nat) (a b : Option Nat) : carts (put l p n) a b = carts l a b + (if okO a p.1 && okO b p.2 then n else 0) := by
  cases n with
  | zero => simp [put]
  | succ n =>
    show carts (l ++ [_]) a b = _
    rw [carts_app, carts_one]
theorem put_up {l : Ld} {p : Nat × Nat} {i j : Nat} (h : i ≤ j) : AtM (put l p i) (put l p j) := fun a b => by
  rw [carts_put, carts_put]
  split <;> omega
theorem many_le (B : Bk) (l : Ld) (p : Nat × Nat) : many B l p ≤ 7 := by
  have := takeW_len (fun n => standsB B (put l p (n + 1))) (List.range 7)
  rw [List.length_range] at this
  exact this
theorem many_in {B : Bk} {l : Ld} {p : Nat × Nat} {i : Nat} (h : i < many B l p) : standsB B (put l p (i + 1)) = true :=
  takeW (fun n => standsB B (put l p (n + 1))) (List.range 7) i i (by
    have := many_le B l p
    rw [List.getElem?_range (by omega)]) h
theorem many_lt {B : Bk} (g : sm6 B) (l : Ld) (p : Nat × Nat) : many B l p ≤ 6 := by
  rcases Nat.lt_or_ge (many B l p) 7 with h | h
  · omega
  · have := stands_carts g (many_in (B := B) (l := l) (p := p) (i := 6) (by omega))
    rw [carts_put] at this
    simp [okO] at this
theorem many_out {B : Bk} (g : sm6 B) {l : Ld} {p : Nat × Nat} : standsB B (put l p (many B l p + 1)) = false :=
  takeW_end (fun n => standsB B (put l p (n + 1))) (List.range 7) (many B l p) (by
    have := many_lt g l p
    show (List.range 7)[many B l p]? = some (many B l p)
    rw [List.getElem?_range (by omega)])
theorem many_iff {B : Bk} (g : sm6 B) {l : Ld} {p : Nat × Nat} {i : Nat} : standsB B (put l p (i + 1)) = true ↔ i < many B l p := by
  constructor
  · intro h
    rcases Nat.lt_or_ge i (many B l p) with c | c
    · exact c
    · have := (put_up (l := l) (p := p) (i := many B l p + 1) (j := i + 1) (by omega)).stands h
      rw [many_out g] at this
      cases this
  · exact many_in
/-! told pair by pair: of several lists -/
theorem standP_perm (B : Bk) : ∀ (ps : List (Nat × Nat)) {ls ms : List Ld}, ls.Perm ms → (standP B ps ls).Perm (standP B ps ms)
  | [], _, _, h => h
  | p :: ps, _, _, h => standP_perm B ps (h.append (h.flatMap_right _))
theorem standP_app (B : Bk) : ∀ (ps : List (Nat × Nat)) (ls ms : List Ld), (standP B ps (ls ++ ms)).Perm (standP B ps ls ++ standP B ps ms)
  | [], _, _ => List.Perm.refl _
  | p :: ps, ls, ms => by
    show (standP B ps (ls ++ ms ++ _)).Perm (standP B ps _ ++ standP B ps _)
    refine List.Perm.trans (standP_perm B ps ?_) (standP_app B ps _ _)
    rw [List.flatMap_append]
    rw [List.append_assoc, List.append_assoc]
    refine List.Perm.append_left _ ?_
    rw [← List.append_assoc, ← List.append_assoc]
    exact List.Perm.append_right _ List.perm_append_comm
theorem standP_nil (B : Bk) : ∀ ps : List (Nat × Nat), standP B ps [] = []
  | [] => rfl
  | p :: ps => standP_nil B ps
theorem standP_flat (B : Bk) (ps : List (Nat × Nat)) : ∀ ls : List Ld, (standP B ps ls).Perm (ls.flatMap fun l => standP B ps [l])
  | [] => by rw [standP_nil]; exact List.Perm.refl _
  | l :: ls => by
    rw [List.flatMap_cons]
    exact (standP_app B ps [l] ls).trans ((standP_flat B ps ls).append_left _)
theorem standP_one (B : Bk) (p : Nat × Nat) (ps : List (Nat × Nat)) (l : Ld) : (standP B (p :: ps) [l]).Perm ((l :: withP B l p).flatMap fun m => standP B ps [m]) := by
  have e : standP B (p :: ps) [l] = standP B ps (l :: withP B l p) := by
    show standP B ps ([l] ++ [l].flatMap _) = _
    rw [List.flatMap_cons, List.flatMap_nil, List.append_nil]
    rfl
  rw [e]
  exact standP_flat B ps _
/-! told by going on -/
def kids (B : Bk) (l : Ld) : List (Nat × Nat) → List (Ld × List (Nat × Nat))
  | [] => []
  | p :: ps => (if standsB B (addL l p.1 p.2) then [(addL l p.1 p.2, p :: ps)] else []) ++ kids B l ps
def goOn (B : Bk) : Nat → Ld → List (Nat × Nat) → List Ld
  | 0, _, _ => []
  | n + 1, l, ps => l :: (kids B l ps).flatMap fun x => goOn B n x.1 x.2
theorem kid_stands {B : Bk} {l : Ld} : ∀ {ps : List (Nat × Nat)} {x : Ld × List (Nat × Nat)}, x ∈ kids B l ps → standsB B x.1 = true ∧ carts x.1 none none = carts l none none + 1
  | [], x, h => nomatch h
  | p :: ps, x, h => by
    rcases List.mem_append.mp h with h | h
    · split at h
      · rename_i c
        rw [List.mem_singleton.mp h]
        refine ⟨c, ?_⟩
        rw [carts_add]
        simp [okO]
      · cases h
    · exact kid_stands h
theorem flat_congr {α β : Type} {f g : α → List β} : ∀ {l : List α}, (∀ x ∈ l, f x = g x) → l.flatMap f = l.flatMap g
  | [], _ => rfl
  | a :: l, h => by
    rw [List.flatMap_cons, List.flatMap_cons, h a List.mem_cons_self, flat_congr fun x hx => h x (List.mem_cons_of_mem _ hx)]
theorem goOn_fuel {B : Bk} (g : sm6 B) : ∀ (n : Nat) (l : Ld) (ps : List (Nat × Nat)), standsB B l = true → 7 ≤ n + carts l none none → goOn B n l ps = goOn B (n + 1) l ps
  | 0, l, ps, s, h => by
    have := stands_carts g s
    omega
  | n + 1, l, ps, s, h => by
    show l :: _ = l :: _
    congr 1
    exact flat_congr fun x hx => by
      obtain ⟨a, b⟩ := kid_stands hx
      exact goOn_fuel g n x.1 x.2 a (by omega)
/-- all pairs of l come before -/
def Bef (l : Ld) (ps : List (Nat × Nat)) : Prop := ∀ e ∈ l, ∀ p ∈ ps, lt2 e (p.1, p.2, 0)
def SmP (ps : List (Nat × Nat)) : Prop := ∀ p ∈ ps, p.1 < 1024 ∧ p.2 < 1024
def OrdP (ps : List (Nat × Nat)) : Prop := ps.Pairwise fun p q => lt2 (p.1, p.2, 0) (q.1, q.2, 0)
theorem others_bef {l : Ld} {p : Nat × Nat} (h : ∀ e ∈ l, lt2 e (p.1, p.2, 0)) : others l p.1 p.2 = l := by
  unfold others
  refine List.filter_eq_self.mpr fun e he => ?_
  have := h e he
  unfold lt2 at this
  simp only at this
  have : ¬ (e.1 = p.1 ∧ e.2.1 = p.2) := by omega
  simp only [Bool.not_eq_true', Bool.and_eq_false_iff, decide_eq_false_iff_not]
  omega
theorem carts_bef {l : Ld} {p : Nat × Nat} (h : ∀ e ∈ l, lt2 e (p.1, p.2, 0)) : carts l (some p.1) (some p.2) = 0 := by
  unfold carts
  rw [show (l.filter fun e => okO (some p.1) e.1 && okO (some p.2) e.2.1) = [] from ?_]
  · rfl
  · refine List.filter_eq_nil_iff.mpr fun e he => ?_
    have := h e he
    unfold lt2 at this
    simp only at this
    show ¬ ((decide (p.1 = e.1) && decide (p.2 = e.2.1)) = true)
    rw [Bool.and_eq_true, decide_eq_true_iff, decide_eq_true_iff]
    omega
theorem others_put {l : Ld} {p : Nat × Nat} (h : ∀ e ∈ l, lt2 e (p.1, p.2, 0)) (n : Nat) : others (put l p n) p.1 p.2 = l := by
  cases n with
  | zero => exact others_bef h
  | succ n =>
    show others (l ++ [_]) _ _ = l
    unfold others
    rw [List.filter_append]
    have := others_bef h
    unfold others at this
    rw [this]
    simp
theorem add_put {l : Ld} {p : Nat × Nat} (h : ∀ e ∈ l, lt2 e (p.1, p.2, 0)) (sp : p.1 < 1024 ∧ p.2 < 1024) (sl : SmL l) (so : l.Pairwise lt2) {n : Nat} (hn : n ≤ 1000) : addL (put l p n) p.1 p.2 = put l p (n + 1) := by
  unfold addL
  rw [others_put h, carts_put, carts_bef h]
  have e : (if (okO (some p.1) p.1 && okO (some p.2) p.2) = true then n else 0) = n := by simp [okO]
  rw [e, Nat.zero_add]
  have sb : ∀ e ∈ l ++ [(p.1, p.2, n + 1)], Sm e := fun e he => by
    rcases List.mem_append.mp he with c | c
    · exact sl e c
    · rw [List.mem_singleton.mp c]
      unfold Sm
      simp only
      omega
  refine tsort_self ?_ sb
  have : (l ++ [(p.1, p.2, n + 1)]).Pairwise lt2 := by
    rw [List.pairwise_append]
    refine ⟨so, List.pairwise_singleton _ _, fun e he f hf => ?_⟩
    rw [List.mem_singleton.mp hf]
    have := h e he
    unfold lt2 at this ⊢
    exact this
  exact List.Pairwise.imp_of_mem (fun {x y} hx hy q => lt2_c3 (sb x hx) (sb y hy) q) this
theorem goOn_step {B : Bk} (g : sm6 B) {l : Ld} {p : Nat × Nat} {ps : List (Nat × Nat)} (h : ∀ e ∈ l, lt2 e (p.1, p.2, 0)) (sp : p.1 < 1024 ∧ p.2 < 1024) (sl : SmL l) (so : l.Pairwise lt2) :
    ∀ (k n : Nat), n + k = many B l p → (goOn B 7 (put l p n) (p :: ps)).Perm (((List.range' n (k + 1)).map (put l p)).flatMap fun m => goOn B 7 m ps)
  | 0, n, e => by
    have hn : standsB B (addL (put l p n) p.1 p.2) = false := by
      rw [add_put h sp sl so (by have := many_le B l p; omega)]
      have := many_out g (l := l) (p := p)
      rw [← e] at this
      exact this
    show (put l p n :: ((if standsB B (addL (put l p n) p.1 p.2) = true then _ else _) ++ kids B (put l p n) ps).flatMap _).Perm _
    rw [if_neg (by rw [hn]; decide), List.nil_append]
    simp only [Nat.zero_add, List.range'_one, List.map_cons, List.map_nil, List.flatMap_cons, List.flatMap_nil, List.append_nil]
    exact List.Perm.refl _
  | k + 1, n, e => by
    have ha := add_put h sp sl so (n := n) (by have := many_le B l p; omega)
    have hs : standsB B (put l p (n + 1)) = true := (many_iff g).mpr (by omega)
    have ih := goOn_step (ps := ps) g h sp sl so k (n + 1) (by omega)
    have hc : 1 ≤ carts (put l p (n + 1)) none none := by
      rw [carts_put]
      simp [okO]
      omega
    rw [← goOn_fuel g 6 _ _ hs (by omega)] at ih
    show (put l p n :: ((if standsB B (addL (put l p n) p.1 p.2) = true then _ else _) ++ kids B (put l p n) ps).flatMap _).Perm _
    rw [ha, if_pos hs, List.range'_succ, List.map_cons, List.flatMap_cons, List.flatMap_append, List.flatMap_cons, List.flatMap_nil, List.append_nil]
    show (put l p n :: (goOn B 6 (put l p (n + 1)) (p :: ps) ++ _)).Perm (put l p n :: _ ++ _)
    rw [List.cons_append]
    refine List.Perm.cons _ ?_
    exact List.perm_append_comm.trans (ih.append_left _)
theorem put_bef {l : Ld} {p : Nat × Nat} {ps : List (Nat × Nat)} (h : Bef l (p :: ps)) (o : OrdP (p :: ps)) (n : Nat) : Bef (put l p n) ps := fun e he q hq => by
  cases n with
  | zero => exact h e he q (List.mem_cons_of_mem _ hq)
  | succ n =>
    rcases List.mem_append.mp he with c | c
    · exact h e c q (List.mem_cons_of_mem _ hq)
    · rw [List.mem_singleton.mp c]
      have := (List.pairwise_cons.mp o).1 q hq
      unfold lt2 at this ⊢
      exact this
theorem put_sm {l : Ld} {p : Nat × Nat} (sp : p.1 < 1024 ∧ p.2 < 1024) (sl : SmL l) {n : Nat} (hn : n ≤ 1000) : SmL (put l p n) := fun e he => by
  cases n with
  | zero => exact sl e he
  | succ n =>
    rcases List.mem_append.mp he with c | c
    · exact sl e c
    · rw [List.mem_singleton.mp c]
      unfold Sm
      simp only
      omega
theorem put_ord {l : Ld} {p : Nat × Nat} (h : ∀ e ∈ l, lt2 e (p.1, p.2, 0)) (so : l.Pairwise lt2) (n : Nat) : (put l p n).Pairwise lt2 := by
  cases n with
  | zero => exact so
  | succ n =>
    show (l ++ [_]).Pairwise lt2
    rw [List.pairwise_append]
    refine ⟨so, List.pairwise_singleton _ _, fun e he f hf => ?_⟩
    rw [List.mem_singleton.mp hf]
    have := h e he
    unfold lt2 at this ⊢
    exact this
theorem perm_flat {α β : Type} {f g : α → List β} : ∀ {l : List α}, (∀ x ∈ l, (f x).Perm (g x)) → (l.flatMap f).Perm (l.flatMap g)
  | [], _ => List.Perm.refl _
  | a :: l, h => by
    rw [List.flatMap_cons, List.flatMap_cons]
    exact (h a List.mem_cons_self).append (perm_flat fun x hx => h x (List.mem_cons_of_mem _ hx))
theorem range_put (B : Bk) (l : Ld) (p : Nat × Nat) : (List.range' 0 (many B l p + 1)).map (put l p) = l :: withP B l p := by
  rw [List.range'_succ, List.map_cons]
  unfold withP
  congr 1
  rw [List.range'_eq_map_range, List.map_map]
  refine List.map_congr_left fun i _ => ?_
  show put l p (0 + 1 + i) = put l p (i + 1)
  rw [show 0 + 1 + i = i + 1 by omega]
/-- both ways of telling tell the same loads -/
theorem goOn_standP {B : Bk} (g : sm6 B) : ∀ (ps : List (Nat × Nat)) (l : Ld), Bef l ps → OrdP ps → SmP ps → SmL l → l.Pairwise lt2 → (goOn B 7 l ps).Perm (standP B ps [l])
  | [], l, _, _, _, _, _ => by
    show (l :: [].flatMap _).Perm [l]
    exact List.Perm.refl _
  | p :: ps, l, hb, ho, hs, sl, so => by
    have h : ∀ e ∈ l, lt2 e (p.1, p.2, 0) := fun e he => hb e he p List.mem_cons_self
    have sp := hs p List.mem_cons_self
    have a := goOn_step (ps := ps) g h sp sl so (many B l p) 0 (by omega)
    refine List.Perm.trans a ?_
    rw [range_put]
    refine List.Perm.trans (perm_flat fun m hm => ?_) (standP_one B p ps l).symm
    have e : ∃ n, n ≤ 1000 ∧ m = put l p n := by
      rcases List.mem_cons.mp hm with c | c
      · exact ⟨0, by omega, c⟩
      · unfold withP at c
        obtain ⟨i, hi, r⟩ := List.mem_map.mp c
        have := List.mem_range.mp hi
        have := many_le B l p
        exact ⟨i + 1, by omega, r.symm⟩
    obtain ⟨n, hn, rfl⟩ := e
    exact goOn_standP g ps _ (put_bef hb ho n) (List.pairwise_cons.mp ho).2 (fun q hq => hs q (List.mem_cons_of_mem _ hq)) (put_sm sp sl hn) (put_ord h so n)

/-! which loads are told -/
/-- l with a tail over the pairs -/
def Tl (B : Bk) (ps : List (Nat × Nat)) (l m : Ld) : Prop := ∃ t : Ld, m = l ++ t ∧ (∀ e ∈ t, (e.1, e.2.1) ∈ ps ∧ 0 < e.2.2) ∧ t.Pairwise lt2 ∧ standsB B m = true
theorem app_atM (l t : Ld) : AtM l (l ++ t) := fun a b => by rw [carts_app]; omega
theorem withP_mem {B : Bk} (g : sm6 B) {l m : Ld} {p : Nat × Nat} (s : standsB B l = true) : m ∈ l :: withP B l p ↔ ∃ n, m = put l p n ∧ standsB B m = true := by
  constructor
  · intro h
    rcases List.mem_cons.mp h with c | c
    · exact ⟨0, c, by rw [c]; exact s⟩
    · unfold withP at c
      obtain ⟨i, hi, r⟩ := List.mem_map.mp c
      exact ⟨i + 1, r.symm, by rw [← r]; exact many_in (List.mem_range.mp hi)⟩
  · rintro ⟨n, rfl, h⟩
    cases n with
    | zero => exact List.mem_cons_self
    | succ n =>
      refine List.mem_cons_of_mem _ ?_
      unfold withP
      exact List.mem_map.mpr ⟨n, List.mem_range.mpr ((many_iff g).mp h), rfl⟩
theorem standP_mem {B : Bk} (g : sm6 B) : ∀ (ps : List (Nat × Nat)) (l : Ld), OrdP ps → standsB B l = true → ∀ m, m ∈ standP B ps [l] ↔ Tl B ps l m
  | [], l, _, s, m => by
    show m ∈ [l] ↔ _
    rw [List.mem_singleton]
    constructor
    · rintro rfl
      exact ⟨[], (List.append_nil _).symm, fun _ h => (nomatch h), .nil, s⟩
    · rintro ⟨t, rfl, h, _, _⟩
      cases t with
      | nil => exact List.append_nil _
      | cons e t => exact absurd (h e List.mem_cons_self).1 (by simp)
  | p :: ps, l, o, s, m => by
    rw [(standP_one B p ps l).mem_iff, List.mem_flatMap]
    obtain ⟨o1, o2⟩ := List.pairwise_cons.mp o
    constructor
    · rintro ⟨x, hx, hm⟩
      obtain ⟨n, rfl, sx⟩ := (withP_mem g s).mp hx
      obtain ⟨t, rfl, h1, h2, h3⟩ := (standP_mem g ps _ o2 sx m).mp hm
      cases n with
      | zero => exact ⟨t, rfl, fun e he => ⟨List.mem_cons_of_mem _ (h1 e he).1, (h1 e he).2⟩, h2, h3⟩
      | succ n =>
        refine ⟨(p.1, p.2, n + 1) :: t, ?_, fun e he => ?_, List.pairwise_cons.mpr ⟨fun e he => ?_, h2⟩, h3⟩
        · show l ++ [_] ++ t = l ++ _ :: t
          rw [List.append_assoc]
          rfl
        · rcases List.mem_cons.mp he with c | c
          · rw [c]
            exact ⟨List.mem_cons_self, Nat.succ_pos _⟩
          · exact ⟨List.mem_cons_of_mem _ (h1 e c).1, (h1 e c).2⟩
        · have := o1 _ (h1 e he).1
          unfold lt2 at this ⊢
          exact this
    · rintro ⟨t, rfl, h1, h2, h3⟩
      cases t with
      | nil =>
        rw [List.append_nil] at h3 ⊢
        exact ⟨l, List.mem_cons_self, (standP_mem g ps l o2 s l).mpr ⟨[], (List.append_nil _).symm, fun _ h => (nomatch h), .nil, h3⟩⟩
      | cons e t =>
        obtain ⟨e1, e2⟩ := List.pairwise_cons.mp h2
        rcases List.mem_cons.mp (h1 e List.mem_cons_self).1 with c | c
        · -- the head is of p
          have en : ∃ n, e = (p.1, p.2, n + 1) := by
            obtain ⟨a, b, n⟩ := e
            have h0 := (h1 _ List.mem_cons_self).2
            simp only at h0
            cases n with
            | zero => exact absurd h0 (by decide)
            | succ n =>
              refine ⟨n, ?_⟩
              rw [← c]
          obtain ⟨n, rfl⟩ := en
          have eq : l ++ (p.1, p.2, n + 1) :: t = put l p (n + 1) ++ t := by
            show _ = l ++ [_] ++ t
            rw [List.append_assoc]
            rfl
          rw [eq] at h3 ⊢
          have sx : standsB B (put l p (n + 1)) = true := (app_atM _ t).stands h3
          refine ⟨_, (withP_mem g s).mpr ⟨n + 1, rfl, sx⟩, (standP_mem g ps _ o2 sx _).mpr ⟨t, rfl, fun f hf => ?_, e2, h3⟩⟩
          refine ⟨?_, (h1 f (List.mem_cons_of_mem _ hf)).2⟩
          rcases List.mem_cons.mp (h1 f (List.mem_cons_of_mem _ hf)).1 with d | d
          · have := e1 f hf
            unfold lt2 at this
            simp only at this
            have d1 : f.1 = p.1 := congrArg Prod.fst d
            have d2 : f.2.1 = p.2 := congrArg Prod.snd d
            omega
          · exact d
        · -- none of p
          refine ⟨l, List.mem_cons_self, (standP_mem g ps l o2 s _).mpr ⟨e :: t, rfl, fun f hf => ⟨?_, (h1 f hf).2⟩, h2, h3⟩⟩
          rcases List.mem_cons.mp (h1 f hf).1 with d | d
          · have d1 : f.1 = p.1 := congrArg Prod.fst d
            have d2 : f.2.1 = p.2 := congrArg Prod.snd d
            have := o1 _ c
            unfold lt2 at this
            simp only at this
            rcases List.mem_cons.mp hf with z | z
            · subst z
              omega
            · have := e1 f z
              unfold lt2 at this
              omega
          · exact d
/-- how many at most -/
theorem withP_len {B : Bk} (g : sm6 B) (l : Ld) (p : Nat × Nat) : (withP B l p).length ≤ 6 := by
  unfold withP
  rw [List.length_map, List.length_range]
  exact many_lt g l p
theorem flat_len {α β : Type} {f : α → List β} {k : Nat} : ∀ {l : List α}, (∀ x ∈ l, (f x).length ≤ k) → (l.flatMap f).length ≤ l.length * k
  | [], _ => by simp
  | a :: l, h => by
    have := flat_len (l := l) fun x hx => h x (List.mem_cons_of_mem _ hx)
    have := h a List.mem_cons_self
    rw [List.flatMap_cons, List.length_append, List.length_cons, Nat.succ_mul]
    omega
theorem stepP_len {B : Bk} (g : sm6 B) (ls : List Ld) (p : Nat × Nat) : (ls ++ ls.flatMap fun l => withP B l p).length ≤ ls.length * 7 := by
  have := flat_len (l := ls) (f := fun l => withP B l p) (k := 6) fun l _ => withP_len g l p
  rw [List.length_append]
  omega
theorem standP_len {B : Bk} (g : sm6 B) : ∀ (ps : List (Nat × Nat)) (ls : List Ld), (standP B ps ls).length ≤ ls.length * 7 ^ ps.length
  | [], ls => by simp [standP]
  | p :: ps, ls => by
    have h1 := standP_len g ps (ls ++ ls.flatMap fun l => withP B l p)
    have h2 := Nat.mul_le_mul_right (7 ^ ps.length) (stepP_len g ls p)
    have e : ls.length * 7 * 7 ^ ps.length = ls.length * 7 ^ (p :: ps).length := by
      rw [List.length_cons, Nat.pow_succ, Nat.mul_assoc, Nat.mul_comm 7]
    show (standP B ps _).length ≤ _
    omega
/-! the way of the law: a heap of loads that are still to be gone on from -/
def kidsI (B : Bk) (P : List (Nat × Nat)) (l : Ld) (f : Nat) : List (Ld × Nat) :=
  ((List.range' f (P.length - f)).filter fun i => standsB B (addL l (P.getD i (0, 0)).1 (P.getD i (0, 0)).2)).map fun i => (addL l (P.getD i (0, 0)).1 (P.getD i (0, 0)).2, i)
theorem kids_drop {B : Bk} {P : List (Nat × Nat)} {l : Ld} : ∀ (k f : Nat), f + k = P.length → kids B l (P.drop f) = (kidsI B P l f).map fun x => (x.1, P.drop x.2)
  | 0, f, e => by
    have : P.length - f = 0 := by omega
    unfold kidsI
    rw [this, List.drop_eq_nil_of_le (by omega)]
    rfl
  | k + 1, f, e => by
    have hf : f < P.length := by omega
    have e1 : P.length - f = k + 1 := by omega
    have e2 : P.length - (f + 1) = k := by omega
    have ih := kids_drop (B := B) (P := P) (l := l) k (f + 1) (by omega)
    have eg : P.getD f (0, 0) = P[f] := by
      rw [List.getD_eq_getElem?_getD, List.getElem?_eq_getElem hf]
      rfl
    have ed : P.drop f = P.getD f (0, 0) :: P.drop (f + 1) := by
      rw [eg]
      exact List.drop_eq_getElem_cons hf
    unfold kidsI at ih ⊢
    rw [e2] at ih
    rw [e1, List.range'_succ, List.filter_cons]
    rw [ed]
    show (if standsB B (addL l (P.getD f (0, 0)).1 (P.getD f (0, 0)).2) = true then _ else _) ++ kids B l (P.drop (f + 1)) = _
    rw [ih]
    split
    · rw [List.map_cons, List.map_cons, ← ed]
      rfl
    · rfl
/-- what is still to be told of what lies on the heap -/
def due (B : Bk) (P : List (Nat × Nat)) (x : Ld × Nat) : List Ld := goOn B 7 x.1 (P.drop x.2)
theorem due_pop {B : Bk} (g : sm6 B) {P : List (Nat × Nat)} {x : Ld × Nat} (s : standsB B x.1 = true) (hf : x.2 ≤ P.length) : due B P x = x.1 :: (kidsI B P x.1 x.2).flatMap (due B P) := by
  unfold due
  rw [goOn_fuel g 7 _ _ s (by omega)]
  show x.1 :: _ = _
  congr 1
  rw [kids_drop (P.length - x.2) x.2 (by omega), List.flatMap_map]
end TM
set_option linter.all false
/-! how many lanes a place has, when places are called otherwise. Plain Lean. -/
namespace TM
theorem Done.degs {y d : Nat} {L : Lanes} {ps : List Nat} (D : Done y L) (m : Mixed (L.length + 1) ps) (h : ∀ j, deg L j ≤ d) (v : Nat) : (adj (ren (fun i => ps.getD i 0) L) v).length ≤ d := by
  have inj : ∀ a ∈ (List.range (L.length + 1)).reverse, ∀ b ∈ (List.range (L.length + 1)).reverse, (fun i => ps.getD i 0) a = (fun i => ps.getD i 0) b → a = b := fun a ha b hb e => m.inj (by simpa using ha) (by simpa using hb) e
  have ends : ∀ p ∈ L, p.1 ∈ (List.range (L.length + 1)).reverse ∧ p.2 ∈ (List.range (L.length + 1)).reverse := fun p hp => Grow.ends D.dr (.inl (List.mem_reverse.mpr hp))
  by_cases hv : v < L.length + 1
  · have mv : v ∈ ps := m.perm.mem_iff.mpr (List.mem_range.mpr hv)
    rw [← m.map] at mv
    obtain ⟨i, hi, e⟩ := List.mem_map.mp mv
    have hi := List.mem_range.mp hi
    rw [← e, adj_length, nb_ren (f := fun i => ps.getD i 0) ends inj (by simpa using hi), List.length_map]
    exact h i
  · have z : nb (ren (fun i => ps.getD i 0) L) v = [] := by
      cases e : nb (ren (fun i => ps.getD i 0) L) v with
      | nil => rfl
      | cons x r =>
        exfalso
        have hx : x ∈ nb (ren (fun i => ps.getD i 0) L) v := by rw [e]; exact List.mem_cons_self
        have low : ∀ p ∈ ren (fun i => ps.getD i 0) L, p.1 < L.length + 1 ∧ p.2 < L.length + 1 := fun p hp => by
          unfold ren at hp
          obtain ⟨q, hq, r⟩ := List.mem_map.mp hp
          obtain ⟨h1, h2⟩ := ends q hq
          have g : ∀ j, j < L.length + 1 → ps.getD j 0 < L.length + 1 := fun j hj => m.lt (List.mem_of_getElem? (getD_at (by rw [m.len]; exact hj)))
          rw [← r]
          exact ⟨g _ (by simpa using h1), g _ (by simpa using h2)⟩
        rcases mem_nb.mp hx with c | c
        · exact hv (low _ c).1
        · exact hv (low _ c).2
    rw [adj_length, z]
    exact Nat.zero_le _
end TM
set_option Elab.async false
set_option linter.all false
set_option maxRecDepth 100000
set_option maxHeartbeats 4000000
/-! a == b of two objects of a class with its own __eq__, whatever it answers -/
namespace G9
open PySem PySem.Spec PyProof.Rows L2
def rOwnEq (C : Addr) (sp : Sp) (E : XK) : R2 := fun x y H Q => ∃ a b dx dy fs gs, x = .ref a ∧ y = .ref b ∧ H a = some (.ins C dx fs) ∧ H b = some (.ins C dy gs) ∧ sp [.ref a, .ref b] H (fun v H' => ∃ k, v = .bl k ∧ Q (.bl k) H') E
theorem op_ownEq {X : Cx} {CX : CXT} {C f : Addr} {fd : FuncData} {ps : List Str} {sp : Sp} {E : XK} {n : Nat} (F : FnOk X.prog X.w X.K X.mg X.base CX n f fd ps sp)
    (found : PySem.W.findIn X.K (.ref C) "__eq__" = some (some (.ref f))) (isF : PySem.W.isFn X.K (.ref f) = true) (bind : Binds X.K fd ps []) (room : Room n X.A) (pass : Passes CX X E) : OpR X (compareOp .Eq) (rOwnEq C sp E) := by
  intro pins s σ H x y v u Q I rx ry hq
  obtain ⟨a, b, dx, dy, fs, gs, rfl, rfl, ha, hb, say⟩ := hq
  obtain rfl : v = Value.ref a := rx
  obtain rfl : u = Value.ref b := ry
  show wpAny (model X.prog X.w) X.A (richCompare .Eq (.ref a) (.ref b)) (EP X pins σ Q) X.xe s
  obtain ⟨_, at1, _⟩ := ins_get I.hok ha
  obtain ⟨_, at2, _⟩ := ins_get I.hok hb
  obtain ⟨_, at1, _⟩ := at1.look
  obtain ⟨_, at2, _⟩ := at2.look
  obtain ⟨_, frame⟩ := I.fr
  refine PySem.W.cmp_K (op := .Eq) (tb := .ref C) room.units0 frame I.ok.mod.kin at1 at2.type (by simp [PySem.W.notFirst]) found isF ?_
  have many := F.len _ _ _ _ say
  have two : Vals [V.ref a, V.ref b] [Value.ref a, Value.ref b] := .cons rfl (.cons rfl .nil)
  have bound := bind s [.ref a, .ref b] I.kIn (by simpa using many)
  rw [List.append_nil] at bound
  refine wpAny_call (codeAny_mono (F.run X.A X.stack s H ⟨[.ref a, .ref b], []⟩ [.ref a, .ref b] [.ref a, .ref b] _ E room I.env0 bound two say) fun r t done => ?_)
  match r, done with
  | .ok (.ret z), done =>
    obtain ⟨v2, H2, J, rel, k, e, q⟩ := I.after done
    subst e
    cases rel
    exact ⟨.bl k, H2, J, rfl, q⟩
  | .error e, done => exact pass pins σ H s e t I done
  | .ok .next, done => exact done.elim
  | .ok .brk, done => exact done.elim
  | .ok .cont, done => exact done.elim
section
variable {M : Model} {prog : Program} {w : World} {A : Around} {E : Value → Shared → Prop} {s : Shared} {K : PySem.W.Frag} {x C f : Addr} {ox : Obj} {od : Option Obj} {y : Value}
/-- the answer turned about by object.__ne__ -/
theorem ne_body (room : A.units < cLine) (KX : K.In s.heap) (I : PySem.W.InstAt s.heap x ox C od) (found : PySem.W.findIn K (.ref C) "__eq__" = some (some (.ref f))) (isF : PySem.W.isFn K (.ref f) = true) {Q : Fin → Shared → Prop}
    (h : wpAny M A (call (.ref f) [.ref x, y]) (fun v t => ∃ b, v = .bool b ∧ Q (.done (.ret (.bool (!b)))) t) E s) : wpAny M A (Builtin.«object.__ne__» ⟨[.ref x, y], []⟩) Q E s := by
  unfold Builtin.«object.__ne__»
  repeat (first
    | with_reducible refine wpAny_cRoomFor room ?_
    | (refine wpAny_bind (m := callSpecialIfBound? (.ref x) (Str.ofString "__eq__") [y]) (PySem.W.ifBound_K KX I found isF (wpAny_mono h (fun v t q => by
        obtain ⟨b, rfl, q⟩ := q
        repeat (first | exact q | exact wpAny_pure q | exact wpAny_truthy_bool q | (refine wpAny_bind (m := truthy (.bool _)) (wpAny_truthy_bool ?_)) | wp_step)) fun _ _ e => e)))
    | wp_step)
theorem ne_call (room : A.in1.units < cLine) (KX : K.In s.heap) (I : PySem.W.InstAt s.heap x ox C od) (mro : PySem.W.mroIn K C (.type "object") = some true) (found : PySem.W.findIn K (.ref C) "__eq__" = some (some (.ref f))) (isF : PySem.W.isFn K (.ref f) = true) {Q : Value → Shared → Prop}
    (h : wpAny (model prog w) A.in1 (call (.ref f) [.ref x, y]) (fun v t => ∃ b, v = .bool b ∧ Q (.bool (!b)) t) E s) : wpAny (model prog w) A (call (.builtin "object.__ne__") [.ref x, y]) Q E s :=
  wpAny_call (codeAny_call_builtin F.cmp_object.ne.plain F.cmpEntry_ne (PySem.W.check_slot F.cmpKind_ne F.cmpSplit_ne (I.type.andThen (PySem.W.looks_mroIn KX mro)) (F.cmpArgs_ne _ _) (ne_body (A := A.in1) room KX I found isF (wpAny_mono h (fun v t q => by
    obtain ⟨b, e, q⟩ := q
    exact ⟨b, e, q⟩) fun _ _ e => e))))
theorem ne_bound {Q : Option Value → Shared → Prop} (KX : K.In s.heap) (I : PySem.W.InstAt s.heap x ox C od) (at_ : PySem.W.findIn K (.ref C) "__ne__" = some (some (.builtin "object.__ne__")))
    (h : wpAny M A (call (.builtin "object.__ne__") [.ref x, y]) (fun v => Q (some v)) E s) : wpAny M A (callSpecialIfBound? (.ref x) "__ne__" [y]) Q E s := by
  have all : wpAny M A (call (.builtin "object.__ne__") ([.ref x] ++ [y]) >>= fun v => pure (some v)) Q E s := wpAny_bind (wpAny_mono h (fun _ _ q => wpAny_pure q) fun _ _ e => e)
  simp only [callSpecialIfBound?, bindSpecialIfBound?]
  refine wpAny_holding (wpAny_bind (wpAny_bind (wpAny_bind (I.type.here ((PySem.W.looks_findIn KX at_).here (wpAny_bind (wpAny_askSetting (wpAny_ite ?_))))))))
  split
  · exact wpAny_bind (wpAny_of_eq (F.cmp_object.ne.bind _) (wpAny_pure (by exact all)))
  · exact wpAny_tryCatch (wpAny_bind (wpAny_of_eq (F.cmp_object.ne.bind _) (wpAny_pure (by exact all))))
theorem ne_rich {b : Addr} {ob : Obj} {od2 : Option Obj} (r0 : A.units < cLine) (r1 : A.in1.units < cLine) (KX : K.In s.heap) (I : PySem.W.InstAt s.heap x ox C od) (I2 : PySem.W.InstAt s.heap b ob C od2) (mro : PySem.W.mroIn K C (.type "object") = some true)
    (at_ : PySem.W.findIn K (.ref C) "__ne__" = some (some (.builtin "object.__ne__"))) (found : PySem.W.findIn K (.ref C) "__eq__" = some (some (.ref f))) (isF : PySem.W.isFn K (.ref f) = true) {Q : Value → Shared → Prop}
    (h : wpAny (model prog w) A.in1 (call (.ref f) [.ref x, .ref b]) (fun v t => ∃ k, v = .bool k ∧ Q (.bool (!k)) t) E s) : wpAny (model prog w) A (richCompare .NotEq (.ref x) (.ref b)) Q E s := by
  have one : wpAny (model prog w) A (tryCompare (.ref x) "__ne__" (.ref b)) (fun r t => ∃ k, r = some (.bool k) ∧ Q (.bool k) t) E s := by
    unfold tryCompare
    refine wpAny_bind (ne_bound KX I at_ (ne_call r1 KX I mro found isF (wpAny_mono h (fun v t q => ?_) fun _ _ e => e)))
    obtain ⟨k, e, q⟩ := q
    exact ⟨k, e, wpAny_pure ⟨_, rfl, q⟩⟩
  unfold richCompare
  simp only [oneThing_ref]
  refine wpAny_holding (wpAny_bind (wpAny_cRoomFor r0 ?_))
  rw [cmpInfo_NotEq]
  dsimp only
  refine wpAny_bind (I.type.here (wpAny_bind (I2.type.here ?_)))
  rw [show (Value.ref C != Value.ref C) = false from by simp]
  simp only [Bool.false_eq_true, if_false]
  refine wpAny_bind (wpAny_pure ?_)
  simp only [Bool.false_eq_true, if_false]
  refine wpAny_bind (wpAny_mono one (fun r t q => ?_) fun _ _ e => e)
  obtain ⟨k, rfl, q⟩ := q
  exact wpAny_pure q
end
def rOwnNe (C : Addr) (sp : Sp) (E : XK) : R2 := fun x y H Q => ∃ a b dx dy fs gs, x = .ref a ∧ y = .ref b ∧ H a = some (.ins C dx fs) ∧ H b = some (.ins C dy gs) ∧ sp [.ref a, .ref b] H (fun v H' => ∃ k, v = .bl k ∧ Q (.bl (!k)) H') E
theorem op_ownNe {X : Cx} {CX : CXT} {C f : Addr} {fd : FuncData} {ps : List Str} {sp : Sp} {E : XK} {n : Nat} (F : FnOk X.prog X.w X.K X.mg X.base CX n f fd ps sp) (mro : PySem.W.mroIn X.K C (.type "object") = some true)
    (at_ : PySem.W.findIn X.K (.ref C) "__ne__" = some (some (.builtin "object.__ne__"))) (found : PySem.W.findIn X.K (.ref C) "__eq__" = some (some (.ref f))) (isF : PySem.W.isFn X.K (.ref f) = true) (bind : Binds X.K fd ps []) (room : Room (n + 1) X.A) (pass : Passes CX X E) : OpR X (compareOp .NotEq) (rOwnNe C sp E) := by
  intro pins s σ H x y v u Q I rx ry hq
  obtain ⟨a, b, dx, dy, fs, gs, rfl, rfl, ha, hb, say⟩ := hq
  obtain rfl : v = Value.ref a := rx
  obtain rfl : u = Value.ref b := ry
  show wpAny (model X.prog X.w) X.A (richCompare .NotEq (.ref a) (.ref b)) (EP X pins σ Q) X.xe s
  obtain ⟨_, at1, _⟩ := ins_get I.hok ha
  obtain ⟨_, at2, _⟩ := ins_get I.hok hb
  obtain ⟨_, at1, _⟩ := at1.look
  obtain ⟨_, at2, _⟩ := at2.look
  have in1 := room.in1
  refine ne_rich room.units0 in1.units0 I.kIn at1 at2 mro at_ found isF ?_
  have many := F.len _ _ _ _ say
  have two : Vals [V.ref a, V.ref b] [Value.ref a, Value.ref b] := .cons rfl (.cons rfl .nil)
  have bound := bind s [.ref a, .ref b] I.kIn (by simpa using many)
  rw [List.append_nil] at bound
  have env : Env0 X.prog X.w X.K X.mg X.base X.A.in1 X.stack s H := by
    have e := I.env0
    exact ⟨e.frames, e.mod, e.bs, e.bsz, e.funs, e.frf, e.hok, e.bare⟩
  refine wpAny_call (codeAny_mono (F.run X.A.in1 X.stack s H ⟨[.ref a, .ref b], []⟩ [.ref a, .ref b] [.ref a, .ref b] _ E in1 env bound two say) fun r t done => ?_)
  match r, done with
  | .ok (.ret z), done =>
    obtain ⟨v2, H2, J, rel, k, e, q⟩ := I.after done
    subst e
    cases rel
    exact ⟨k, rfl, .bl (!k), H2, J, rfl, q⟩
  | .error e, done => exact pass pins σ H s e t I done
  | .ok .next, done => exact done.elim
  | .ok .brk, done => exact done.elim
  | .ok .cont, done => exact done.elim
end G9
set_option Elab.async false
set_option linter.all false
set_option maxRecDepth 100000
set_option maxHeartbeats 4000000
/-! other numbers: promises, lanes as data -/
namespace Pr
open PySem PySem.Spec PyProof.Rows L2 TM Ep
open Evl (Ex Ev EvT EvA EvL EvO)
theorem CAt.same {C : Addr} {H : Hp} {p : Addr} {L M : Lanes} (h : Same M L) (c : CAt C H p M) : CAt C H p L := by
  obtain ⟨dx, l, d, e, y, g, rs, qs, ho, c⟩ := c
  have hn := h.nb
  have hl := h.len
  have ha := adj_of hn
  refine ⟨dx, l, d, e, y, g, rs, qs, ho, ?_, hl ▸ c.d_, ?_, hl ▸ c.e_, hl ▸ c.ql, fun i q k => ?_, ?_, ?_⟩
  · obtain ⟨N, u, v, s⟩ := c.l_
    exact ⟨N, u, v.trans h, s⟩
  · rw [← hl, ← ha]
    exact c.r_
  · obtain ⟨kvs, u, v⟩ := c.q_ i q k
    exact ⟨kvs, u.same (nb_adj hn), v⟩
  · rw [← yards_of hn hl]
    exact c.y_
  · rw [← gates_of hn hl]
    exact c.g_
/-- a list or a tuple -/
def LT (H : Hp) (a : Addr) (xs : List V) : Prop := H a = some (.lst xs) ∨ H a = some (.tup xs)
theorem LT.ex {H H' : Hp} {a : Addr} {xs : List V} (e : Ex H H') (h : LT H a xs) : LT H' a xs := h.imp (e _ _) (e _ _)
abbrev fOf (ps : List Nat) : Nat → Nat := fun i => ps.getD i 0
def spEq (C : Addr) : Sp := fun vs H Q _ => ∃ L M p q, vs = [.ref p, .ref q] ∧ CAt C H p L ∧ CAt C H q M ∧ ∀ H', Ex H H' → Q (.bl (decide (Same L M))) H'
def spNew (C : Addr) : Sp := fun vs H Q _ => ∃ L p a ps, vs = [.ref p, .ref a] ∧ CAt C H p L ∧ LT H a (vIs ps) ∧ Mixed (L.length + 1) ps ∧ L.length ≤ 1000 ∧ ∀ H', Ex H H' → Q (.bl true) H'
def spRen (C : Addr) : Sp := fun vs H Q _ => ∃ L vt p a ps, vs = [.ref p, .ref a] ∧ CAt C H p L ∧ Good vt L ∧ LT H a (vIs ps) ∧ Mixed (L.length + 1) ps ∧ ∀ q H', Ex H H' → H q = none → CAt C H' q (ren (fOf ps) L) → Q (.ref q) H'
def spNumbers : Sp := fun vs H Q _ => ∃ p m, vs = [.ref p, vI m] ∧ PotAt H p ∧ 0 < m ∧ m ≤ 1001 ∧ ∀ a ps H', Mixed m ps → H' a = some (.lst (vIs ps)) → H a = none → ExB p H H' → PotAt H' p → Q (.ref a) H'
def spGatesOf : Sp := fun vs H Q _ => ∃ L a, vs = [.ref a] ∧ LanesAt H a L ∧ L.length ≤ 1000 ∧ ∀ p H', Ex H H' → H p = none → H' p = some (.lst (vIs (gatesL L))) → Q (.ref p) H'
def spLed (C : Addr) : Sp := fun vs H Q _ => ∃ L vt c e a ps b s t, vs = [.ref c, .ref e, .ref a, .ref b, vI s, vI t] ∧ CAt C H c L ∧ CAt C H e (ren (fOf ps) L) ∧ H a = some (.lst (vIs ps)) ∧ Mixed (L.length + 1) ps ∧ LanesAt H b L ∧ Good vt L ∧ s ∈ vt ∧ t ∈ vt ∧ ∀ H', Ex H H' → Q (.bl true) H'
/-! ### lanes as data -/
def dPs (L : Lanes) : List PyData := L.map fun p => .tuple [.int (p.1 : Int), .int (p.2 : Int)]
def dP (L : Lanes) : PyData := .list (dPs L)
theorem dp_pairs {K : PySem.W.Frag} {H : Hp} : ∀ {vs : List V} {L : Lanes}, Paired (PairAt H) vs L → DpAll K H vs (dPs L)
  | _, _, .nil => .nil
  | _, _, .cons ⟨t, r, k⟩ h => by
    subst r
    exact .cons (.tup (Evl.st_of k) (.cons (.int _) (.cons (.int _) .nil))) (dp_pairs h)
theorem dp_P {K : PySem.W.Frag} {H : Hp} {a : Addr} {L : Lanes} (h : LanesAt H a L) : Dp K H (.ref a) (dP L) := by
  obtain ⟨vs, r, k⟩ := h
  exact .lst (Evl.sq_of r) (dp_pairs k)
theorem depth_Ps : ∀ L : Lanes, PyData.depthAll (dPs L) ≤ 1
  | [] => by simp [dPs, PyData.depthAll]
  | a :: l => by
    have ih := depth_Ps l
    unfold dPs at ih ⊢
    simp only [List.map_cons, PyData.depthAll, PyData.depth]
    omega
theorem canLay_Ps : ∀ L : Lanes, PyData.canLayAll0 (dPs L) = true
  | [] => by simp [dPs, PyData.canLayAll0]
  | a :: l => by
    have ih := canLay_Ps l
    unfold dPs at ih ⊢
    simp [PyData.canLayAll0, PyData.canLay0, ih]
theorem shaped_P (L : Lanes) : SeqAt.shaped (dP L) = true := by
  have h := depth_Ps L
  have h2 := canLay_Ps L
  unfold SeqAt.shaped dP
  simp only [PyData.canLay0, PyData.depth, h2, Bool.true_and]
  exact decide_eq_true (by omega)
theorem eqv_Ps : ∀ L M : Lanes, PyData.eqvAll (dPs L) (dPs M) = decide (L = M)
  | [], [] => by simp [dPs, PyData.eqvAll]
  | [], b :: m => by simp [dPs, PyData.eqvAll]
  | a :: l, [] => by simp [dPs, PyData.eqvAll]
  | a :: l, b :: m => by
    have ih := eqv_Ps l m
    unfold dPs at ih ⊢
    obtain ⟨a1, a2⟩ := a
    obtain ⟨b1, b2⟩ := b
    simp only [List.map_cons, PyData.eqvAll, PyData.eqv, ih]
    by_cases h1 : a1 = b1
    · by_cases h2 : a2 = b2
      · subst h1; subst h2
        simp
      · have : ((a2 : Int) == (b2 : Int)) = false := by
          rw [beq_eq_false_iff_ne]
          omega
        simp [this, h2]
    · have : ((a1 : Int) == (b1 : Int)) = false := by
        rw [beq_eq_false_iff_ne]
        omega
      simp [this, h1]
theorem eqv_P (L M : Lanes) : PyData.eqv (dP L) (dP M) = decide (L = M) := by
  unfold dP
  simp only [PyData.eqv]
  exact eqv_Ps L M
section
variable {K : PySem.W.Frag} {σ : L2.St} {H : Hp} {te ta tb : TE}
theorem rv_eqP {a b : Addr} {l m : Lanes} (h1 : LanesAt H a l) (h2 : LanesAt H b m) : Evl.RV (rEqD K) (.ref a) (.ref b) H (.bl (decide (l = m))) := fun H1 e Q q =>
  ⟨dP l, dP m, dp_P (h1.ex e), dp_P (h2.ex e), shaped_P _, shaped_P _, by rw [eqv_P]; exact q H1 (Ex.refl _)⟩
theorem rv_neP {a b : Addr} {l m : Lanes} (h1 : LanesAt H a l) (h2 : LanesAt H b m) : Evl.RV (rNeD K) (.ref a) (.ref b) H (.bl (!decide (l = m))) := fun H1 e Q q =>
  ⟨dP l, dP m, dp_P (h1.ex e), dp_P (h2.ex e), shaped_P _, shaped_P _, by rw [eqv_P]; exact q H1 (Ex.refl _)⟩
/-- [g u for u in l], l a list or a tuple of places -/
theorem src_lt {a : Addr} {xs : List V} (h : Ev te σ H (.ref a)) (hx : LT H a xs) : Src (Ei.eI (iList K te) (iTup K te)) σ H xs.length (fun i v => xs[i]? = some v) := fun H1 e R k => by
  rcases hx with hx | hx
  · exact .inl (src_list h (Evl.sq_of hx) H1 e R k)
  · exact .inr (src_tup h (Evl.st_of hx) H1 e R k)
end
/-! ### what is made and called -/
section
variable {K : PySem.W.Frag} {σ : L2.St} {H : Hp} {te ta tb : TE}
/-- a comprehension over a list that is told anew -/
theorem evp_lcL {tl : TE} {g : TG} {tt : TT} {vs : List Nat} {P P' : VP} (h : EvP tl σ H P) (k : ∀ v H1 H2, Ex H H1 → Ex H1 H2 → P v H1 H2 → EvP (tLc (iList K (tC v)) g tt te vs) σ H2 P') (hP : ∀ z Ha Hb Hc, Ex H Ha → Ex Ha Hb → Ex Hb Hc → P' z Hb Hc → P' z Ha Hc) : EvP (tLc (iList K tl) g tt te vs) σ H P' := fun H1 e Q q =>
  h H1 e _ fun v H2 e2 p => k v H1 H2 e e2 p H2 (Ex.refl _) Q fun z H3 e3 p3 => q z H3 (e2.trans e3) (hP z H1 H2 H3 e e2 e3 p3)
def NewC (C : Addr) (L : Lanes) : VP := fun v Ha Hb => ∃ q, v = .ref q ∧ Ha q = none ∧ CAt C Hb q L
theorem newC_back {C : Addr} {L : Lanes} {H1 H2 H3 : Hp} {v : V} (e : Ex H1 H2) (h : NewC C L v H2 H3) : NewC C L v H1 H3 := by
  obtain ⟨p, r, hp, k⟩ := h
  exact ⟨p, r, Evl.fresh_back e hp, k⟩
/-- Country(lanes) -/
theorem evp_make2 {C : Addr} {L : Lanes} (h : EvP te σ H (fun v _ Hb => ∃ a M vt, v = .ref a ∧ LanesAt Hb a M ∧ Good vt M ∧ Same M L)) : EvP (tMake C (spInit C) [] E0 (tCons te tNil)) σ H (NewC C L) := fun H1 e Q q =>
  h H1 e _ fun v H2 e2 ⟨a, M, vt, r, hL, G, S⟩ x dx hx hdx nx => by
    subst r
    have e3 : Ex H2 (upd (upd H2 dx (.own x)) x (.ins C dx [])) := (Ex.new hdx).trans (Ex.new (by rw [upd_ne nx.symm]; exact hx))
    refine ⟨M, x, dx, a, vt, rfl, upd_same, hL.ex e3, G, fun H3 e4 hC => ⟨rfl, ?_⟩⟩
    refine q _ _ (e2.trans fun b o hb => ?_) ⟨x, rfl, Evl.fresh_back e2 hx, hC.same S⟩
    exact e4 b o (e3 b o hb) fun z => by rw [z, hx] at hb; cases hb
theorem evp_make {C : Addr} {L : Lanes} {vt : List Nat} (h : EvP te σ H (fun v _ Hb => ∃ a, v = .ref a ∧ LanesAt Hb a L)) (G : Good vt L) : EvP (tMake C (spInit C) [] E0 (tCons te tNil)) σ H (NewC C L) :=
  evp_make2 (h.imp fun v _ _ _ _ ⟨a, r, k⟩ => ⟨a, L, vt, r, k, G, Same.refl L⟩)
theorem ev_nbs {C : Addr} {ts : TA} {L : Lanes} {p i : Nat} (h : EvA ts σ H [.ref p, vI i]) (hC : CAt C H p L) (hi : i < L.length + 1) : EvP (tCall (spNbs C) [] E0 ts) σ H (NewL (vIs (adj L i))) :=
  evp_callA h (fun H2 e2 Q q => ⟨L, p, i, rfl, hC.ex e2, hi, fun q' H3 e3 hq hq' => q _ H3 e3 ⟨q', rfl, hq, hq'⟩⟩) (fun v H1 H2 H3 _ e12 _ h => newL_back e12 h)
theorem ev_ren {C : Addr} {ts : TA} {L : Lanes} {vt ps : List Nat} {p a : Nat} (h : EvA ts σ H [.ref p, .ref a]) (hC : CAt C H p L) (G : Good vt L) (ha : LT H a (vIs ps)) (m : Mixed (L.length + 1) ps) : EvP (tCall (spRen C) [] E0 ts) σ H (NewC C (ren (fOf ps) L)) :=
  evp_callA h (fun H2 e2 Q q => ⟨L, vt, p, a, ps, rfl, hC.ex e2, G, ha.ex e2, m, fun q' H3 e3 hq hq' => q _ H3 e3 ⟨q', rfl, hq, hq'⟩⟩) (fun v H1 H2 H3 _ e12 _ h => newC_back e12 h)
/-- a property -/
theorem evp_prop {C : Addr} {R : Hp → Lanes → Addr → Prop} {p : Addr} {L : Lanes} (h : Ev te σ H (.ref p)) (hC : CAt C H p L) : EvP (tProp C (spGet C R) [] E0 te) σ H (fun v Ha Hb => ∃ q, v = .ref q ∧ Ha q = none ∧ R Hb L q) := fun H1 e Q q =>
  h H1 e _ fun H2 e2 => by
    have hC2 := hC.ex (e.trans e2)
    obtain ⟨dx, l, d, ee, yy, g, rs, qs, ho, _⟩ := id hC2
    exact ⟨p, dx, _, rfl, ho, L, p, rfl, hC2, fun q' H3 e3 fq hq => q _ H3 (e2.trans e3) ⟨q', rfl, Evl.fresh_back e2 fq, hq⟩⟩
theorem ev_range {n : Nat} (h : Ev te σ H (vI n)) (hn : n ≤ 100000) : EvP (tLstRg (tRg1 te)) σ H (NewL (vIs (List.range n))) := fun H1 e Q q =>
  h H1 e _ fun H2 e2 => ⟨_, rfl, ⟨by omega, by omega, by omega, by omega, by omega⟩, fun l hl => q _ _ (e2.trans (Ex.new hl)) ⟨l, rfl, Evl.fresh_back e2 hl, by rw [upd_same, rgV_N]⟩⟩
theorem rv_ixN {a : Addr} {xs : List V} {i : Nat} {v : V} (h : LT H a xs) (hv : xs[i]? = some v) : Evl.RV (rIx K) (.ref a) (vI i) H v := fun H1 e Q q => by
  rcases h with h | h
  · exact .inl ⟨a, xs, _, v, rfl, rfl, Evl.sq_of (e _ _ h), at_of rfl hv, q H1 (Ex.refl _)⟩
  · exact .inr (.inl ⟨a, xs, _, v, rfl, rfl, Evl.st_of (e _ _ h), at_of rfl hv, q H1 (Ex.refl _)⟩)
theorem vIs_at {l : List Nat} {i : Nat} (h : i < l.length) : (vIs l)[i]? = some (vI (l.getD i 0)) := by
  unfold vIs
  rw [List.getElem?_map, TM.getD_at h]
  rfl
/-- a == b of two countries -/
theorem rv_eqC {C p q : Addr} {L M : Lanes} (hp : CAt C H p L) (hq : CAt C H q M) : Evl.RV (G9.rOwnEq C (spEq C) E0) (.ref p) (.ref q) H (.bl (decide (Same L M))) := fun H1 e Q k => by
  have hp := hp.ex e
  have hq := hq.ex e
  obtain ⟨dx, _, _, _, _, _, _, _, ho, _⟩ := id hp
  obtain ⟨dy, _, _, _, _, _, _, _, ho', _⟩ := id hq
  exact ⟨p, q, dx, dy, _, _, rfl, rfl, ho, ho', L, M, p, q, rfl, hp, hq, fun H2 e2 => ⟨_, rfl, k H2 e2⟩⟩
theorem rv_neC {C p q : Addr} {L M : Lanes} (hp : CAt C H p L) (hq : CAt C H q M) : Evl.RV (G9.rOwnNe C (spEq C) E0) (.ref p) (.ref q) H (.bl (!decide (Same L M))) := fun H1 e Q k => by
  have hp := hp.ex e
  have hq := hq.ex e
  obtain ⟨dx, _, _, _, _, _, _, _, ho, _⟩ := id hp
  obtain ⟨dy, _, _, _, _, _, _, _, ho', _⟩ := id hq
  exact ⟨p, q, dx, dy, _, _, rfl, rfl, ho, ho', L, M, p, q, rfl, hp, hq, fun H2 e2 => ⟨_, rfl, k H2 e2⟩⟩
theorem ev_opPP' {r : R2} {z : V} {PA PB : VP} (ha : EvP ta σ H PA) (hb : EvP tb σ H PB) (hr : ∀ v u H1 H2 H3, Ex H H1 → Ex H1 H2 → PA v H1 H2 → Ex H2 H3 → PB u H2 H3 → Evl.RV r v u H3 z) : Ev (tOp r ta tb) σ H z := fun H0 e Q q =>
  ha H0 e _ fun v H1 e1 p => hb H1 (e.trans e1) _ fun u H2 e2 p2 => hr v u H0 H1 H2 e e1 p e2 p2 H2 (Ex.refl _) Q fun H3 e3 => q H3 ((e1.trans e2).trans e3)
end
/-! ### beside the pot -/
theorem but_upd {H : Hp} {p : Addr} {o : HO} : Ex (but H p) (upd H p o) := fun b u h => by
  unfold but at h
  split at h
  · cases h
  · rename_i n
    rw [upd_ne n]
    exact h
theorem but_in {H H' : Hp} {p : Addr} (e : Ex H H') : Ex (but H p) (but H' p) := but_exB (.of e)
/-- a country made under the locked pot lies beside the pot -/
theorem lockC {te : TE} {σ : L2.St} {H : Hp} {p C : Addr} {L : Lanes} {Q : VK} (hp : PotAt H p) (h : ∀ Ha, Ex (but H p) Ha → EvP te σ Ha (fun v H1 H2 => ∃ q, v = .ref q ∧ H1 q = none ∧ CAt C H2 q L))
    (k : ∀ q H', H q = none → q ≠ p → Ex H H' → CAt C (but H' p) q L → Q (.ref q) H') : tLockE te σ H Q := by
  obtain ⟨a, b, hpo, r⟩ := hp
  refine ⟨p, _, hpo, trivial, fun od => ?_⟩
  refine h _ but_upd _ (Ex.refl _) _ fun v H2 e2 ⟨q, r, fq, hC⟩ => ⟨e2 _ _ upd_same, ?_⟩
  subst r
  have nq : q ≠ p := fun z => by rw [z, upd_same] at fq; cases fq
  refine k q _ (by rw [upd_ne nq] at fq; exact fq) nq (fun c o hc => ?_) (hC.nf (Nf.but (e2 _ _ upd_same) _))
  by_cases z : c = p
  · subst z
    rw [hpo] at hc
    cases hc
    exact upd_same
  · rw [upd_ne z]
    exact e2 c o (by rw [upd_ne z]; exact hc)
end Pr

set_option Elab.async false
set_option linter.all false
set_option maxRecDepth 100000
set_option maxHeartbeats 4000000
namespace Pr
open PySem PySem.Spec PyProof.Rows L2 TM Ep Nw
open Evl (Ex Ev EvT EvA EvL EvU EvO)
def wf (c d : Addr) : List (Str × V) := [("_country", .ref c), ("_books", .ref d)]
theorem wf_c {c d : Addr} : (wf c d).lookup ("_country" : Str) = some (.ref c) := by rfl
theorem wf_b {c d : Addr} : (wf c d).lookup ("_books" : Str) = some (.ref d) := by rfl
theorem wf_no {c d : Addr} {x : Str} (h1 : (x == ("_country" : Str)) = false) (h2 : (x == ("_books" : Str)) = false) : (wf c d).lookup x = none := by
  unfold wf
  rw [List.lookup_cons, h1, List.lookup_cons, h2]
  rfl
/-- a Web stands at p -/
def WAt (CW C : Addr) (H : Hp) (p : Addr) (L : Lanes) (Bs : List Bk) : Prop := ∃ dx c d ws, H p = some (.ins CW dx (wf c d)) ∧ CAt C H c L ∧ H d = some (.dK (((yardsL L).map keyN).zip ws)) ∧ Paired (LstOf AltL H) ws Bs ∧ Bs.length = (yardsL L).length
theorem WAt.ex {CW C : Addr} {H H' : Hp} {p : Addr} {L : Lanes} {Bs : List Bk} (e : Ex H H') (h : WAt CW C H p L Bs) : WAt CW C H' p L Bs := by
  obtain ⟨dx, c, d, ws, a, b, k, m, l⟩ := h
  exact ⟨dx, c, d, ws, e _ _ a, b.ex e, e _ _ k, (moAL.lst).paired e m, l⟩
/-- the books of the yards of a country -/
def GoodBs (L : Lanes) (Bs : List Bk) : Prop := ∀ (i y : Nat) (B : Bk), (yardsL L)[i]? = some y → Bs[i]? = some B → GoodBk (adj L y) B
def spWInit (CW C : Addr) : Sp := fun vs H Q _ => ∃ B0 L vt p dx c v Bs, vs = [.ref p, .ref c, v] ∧ H p = some (.ins CW dx []) ∧ Ex B0 H ∧ B0 p = none ∧ CAt C B0 c L ∧ Good vt L ∧ LstOf BkR B0 v Bs ∧ Bs.length = (yardsL L).length ∧ GoodBs L Bs ∧
  ∀ H' Hn, (∀ b o, H b = some o → b ≠ p → H' b = some o) → (∀ b o, Hn b = some o → H' b = some o ∧ (B0 b = some o ∨ H b = none ∨ b = p)) → WAt CW C Hn p L Bs → Q .non H'
def spWCountry (CW C : Addr) : Sp := fun vs H Q _ => ∃ L Bs p, vs = [.ref p] ∧ WAt CW C H p L Bs ∧ ∀ c H', Ex H H' → CAt C H c L → Q (.ref c) H'
def spWBook (CW C : Addr) : Sp := fun vs H Q _ => ∃ (B0 : Hp) (L : Lanes) (Bs : List Bk) (p : Addr) (i y : Nat) (B : Bk), vs = [.ref p, vI y] ∧ Ex B0 H ∧ WAt CW C B0 p L Bs ∧ (yardsL L)[i]? = some y ∧ Bs[i]? = some B ∧ B.length ≤ 1000 ∧ ∀ z H', Ex H H' → NewLst AltL B0 B z H H' → Q z H'
def spCheckW (CW C : Addr) : Sp := fun vs H Q _ => ∃ L Bs p, vs = [.ref p] ∧ WAt CW C H p L Bs ∧ ∀ H', Ex H H' → Q .non H'
def spLets (CW C : Addr) : Sp := fun vs H Q _ => ∃ (L : Lanes) (vt : List Nat) (Bs : List Bk) (p : Addr) (i y : Nat) (B : Bk) (u : V) (l : Ld), vs = [.ref p, vI y, u] ∧ WAt CW C H p L Bs ∧ Good vt L ∧ (yardsL L)[i]? = some y ∧ Bs[i]? = some B ∧ GoodBk (adj L y) B ∧ LdR H u l ∧ GoodL (adj L y) l ∧ l.length ≤ 1000 ∧ ∀ H', Ex H H' → Q (.bl (standsB B l)) H'
section
variable {K : PySem.W.Frag} {σ : L2.St} {H : Hp} {te ta tb tc : TE} {ts : TA}
/-- a walk over two lists at once -/
theorem q_zip {D : Ends} {body tz : TS} {i j : Nat} {a b : Addr} {xs ys : List V} (ha : Ev ta σ H (.ref a)) (hb : Ev tb σ H (.ref b)) (hx : H a = some (.lst xs)) (hy : H b = some (.lst ys)) (hl : xs.length = ys.length) (Sh : L2.St → Prop) (s0 : Sh σ)
    (turn : ∀ (n : Nat) (x y : V) (σ' : L2.St) (H' : Hp) (D' : Ends), xs[n]? = some x → ys[n]? = some y → Sh σ' → Ex H H' → (∀ σ3 H3, Sh σ3 → Ex H' H3 → D'.nx σ3 H3) → body D' ((σ'.set i (some x)).set j (some y)) H')
    (fin : ∀ σ' H', Sh σ' → Ex H H' → tz D σ' H') : tSeq (tFor (iZip K (tCons ta (tCons tb tNil))) (gTup K 2 (gCons (gName i) (gCons (gName j) gNil))) body) tz D σ H := by
  refine ha H (Ex.refl _) _ fun H1 e1 => hb H1 e1 _ fun H2 e2 => ?_
  have x2 := e1.trans e2
  refine ⟨a, b, xs, ys, rfl, Evl.sq_of (x2 _ _ hx), Evl.sq_of (x2 _ _ hy), ?_⟩
  refine for_it (walk_zip (n := xs.length) (by rw [hl]; simp)) (fun _ σ' H' => Sh σ' ∧ Ex H H') ⟨s0, x2⟩ (fun _ _ H' _ h => ⟨Evl.sq_of (h.2 _ _ hx), Evl.sq_of (h.2 _ _ hy)⟩) (fun n v σ' Ha Hb hi h y => ?_) (fun σ' H' h => fin σ' H' h.1 h.2)
  obtain ⟨T, x, z, rfl, fT, rfl, hx2, hy2⟩ := y
  have e3 : Ex H (upd Ha T (.tup [x, z])) := h.2.trans (Ex.new fT)
  exact go_2 upd_same (turn n x z σ' _ _ hx2 hy2 h.1 e3 fun σ3 H3 s e => ⟨s, e3.trans e⟩)
/-- {y: F a for y, a in zip(ys, as)} -/
theorem dcZ {β γ : Type} [Inhabited β] {R : Rep β} {S : Rep γ} (mS : Mono S) {tk tv : TE} {i j : Nat} {vs : List Nat} {a b : Addr} {Y : List Nat} {ys : List V} {L : List β} (ha : Ev ta σ H (.ref a)) (hb : Ev tb σ H (.ref b)) (hx : H a = some (.lst (vIs Y))) (hy : H b = some (.lst ys)) (hp : Paired (R H) ys L) (hl : Y.length = L.length) (nd : Y.Nodup) (hn : Y.length ≤ 1000)
    (st : Nat → V → L2.St) (hst : ∀ n x, ((wipe σ vs).set i (some (vI n))).set j (some x) = st n x) (hw : ∀ n x, wipe (st n x) vs = wipe σ vs) (hkk : ∀ n x, Ev tk (st n x) H (vI n)) (F : β → γ) (he : ∀ n c x, c ∈ L → R H x c → EvP tv (st n x) H (NewR S H (F c))) :
    EvP (tDc (iZip K (tCons ta (tCons tb tNil))) (gTup K 2 (gCons (gName i) (gCons (gName j) gNil))) tYes tk tv vs) σ H (fun v H1 H2 => ∃ d ws Hn, v = .ref d ∧ H1 d = none ∧ Mk H H1 H2 Hn ∧ Hn d = some (.dK ((Y.map keyN).zip ws)) ∧ Paired (S Hn) ws (L.map F)) := fun H0 e0 Q q => by
  refine ha H0 e0 _ fun H1 e1 => hb H1 (e0.trans e1) _ fun H2 e2 => ?_
  have x2 := (e0.trans e1).trans e2
  have e12 := e1.trans e2
  refine ⟨a, b, vIs Y, ys, rfl, Evl.sq_of (x2 _ _ hx), Evl.sq_of (x2 _ _ hy), fun D hD => ?_⟩
  have hyl : ys.length = L.length := PySem.Paired.length hp
  have W := walk_zip (K := K) (a := a) (b := b) (xs := vIs Y) (ys := ys) (n := Y.length) (by rw [List.length_map]; omega)
  have fD := Evl.fresh_back e12 hD
  have h0 : H D = none := Evl.fresh_back e0 fD
  have ln : ∀ (k : Nat) (ws : List V), ws.length = k → k ≤ Y.length → (((Y.take k).map keyN).zip ws).length = k := fun k ws h1 h2 => by
    rw [List.length_zip, List.length_map, List.length_take]
    omega
  refine ⟨fun k m H' => m = Y.length - k ∧ k ≤ Y.length ∧ ∃ Hn ws, Ex H2 H' ∧ Mk H H0 H' Hn ∧ Hn D = none ∧ H' D = some (.dK (((Y.take k).map keyN).zip ws)) ∧ ws.length = k ∧ Paired (S Hn) ws ((L.take k).map F), ⟨Y.length, by simp, Nat.zero_le _, H, [], Ex.new hD, fun b o z => ⟨Ex.new hD _ _ (x2 _ _ z), .inl z⟩, h0, upd_same, rfl, .nil⟩, ?_⟩
  rintro k m Ha ⟨rfl, hkn, Hn, ws, a2, mk, d, hDa, wl, pw⟩
  have G : SqL K Ha a (vIs Y) ∧ SqL K Ha b ys := ⟨Evl.sq_of (a2 _ _ (x2 _ _ hx)), Evl.sq_of (a2 _ _ (x2 _ _ hy))⟩
  by_cases hk : k < Y.length
  · refine .inr ⟨W.goes k Ha hk G, fun H' => ∃ Hn ws, Ex H2 H' ∧ Mk H H0 H' Hn ∧ Hn D = none ∧ H' D = some (.dK (((Y.take (k + 1)).map keyN).zip ws)) ∧ ws.length = k + 1 ∧ Paired (S Hn) ws ((L.take (k + 1)).map F), fun H' p' => ⟨Y.length - (k + 1), by omega, rfl, hk, p'⟩, fun x Hb y => ?_⟩
    obtain ⟨T, x1, z1, rfl, fT, rfl, hx1, hz1⟩ := W.yields k Ha x Hb hk G y
    have hY : Y[k]? = some Y[k] := List.getElem?_eq_getElem hk
    have ex1 : x1 = vI Y[k] := by
      have hx1 : (vIs Y)[k]? = some x1 := hx1
      unfold vIs at hx1
      rw [List.getElem?_map, hY] at hx1
      exact (Option.some.inj hx1).symm
    subst ex1
    obtain ⟨c, hc, rc⟩ := pix hp hz1
    have eT : Ex Ha (upd Ha T (.tup [vI Y[k], z1])) := Ex.new fT
    refine go_2 upd_same ?_
    rw [hst]
    refine ⟨hw _ _, yes_go ?_⟩
    dsimp only
    rw [if_pos rfl]
    have eH : Ex H (upd Ha T (.tup [vI Y[k], z1])) := (x2.trans a2).trans eT
    refine hkk Y[k] z1 _ eH _ fun Hc ec => ?_
    refine he Y[k] c z1 (List.mem_of_getElem? hc) rc Hc (eH.trans ec) _ fun v Hd ed hv => ?_
    obtain ⟨Hv, mv, sv⟩ := hv
    have hDc := ec _ _ (eT _ _ hDa)
    have dv : Hv D = none := by
      cases cc : Hv D with
      | none => rfl
      | some o =>
        rcases (mv D o cc).2 with z | z
        · rw [h0] at z; cases z
        · rw [hDc] at z; cases z
    have mv2 : Mk H H0 Hd Hv := mv.back (e12.trans (a2.trans (eT.trans ec)))
    obtain ⟨mj, ja, jb⟩ := (mk.on ((eT.trans ec).trans ed)).join mv2
    have dj : join Hn Hv D = none := by
      unfold join
      rw [d]
      exact dv
    have nk : valV (((Y.take k).map keyN).zip ws) (keyN Y[k]) = none := by
      cases e : valV (((Y.take k).map keyN).zip ws) (keyN Y[k]) with
      | none => rfl
      | some z =>
        obtain ⟨pr, hpr, e2⟩ := List.mem_map.mp (valV_in e)
        have m2 := (List.of_mem_zip (a := pr.1) (b := pr.2) hpr).1
        obtain ⟨y', hy', e3⟩ := List.mem_map.mp m2
        have e4 : keyN y' = keyN Y[k] := e3.trans e2
        have e5 : y' = Y[k] := by
          have : ((y' : Nat) : Int) = ((Y[k] : Nat) : Int) := Sum.inl.inj e4
          omega
        obtain ⟨n, hn2, e6⟩ := List.mem_iff_getElem.mp hy'
        rw [List.length_take] at hn2
        rw [List.getElem_take] at e6
        have := (List.getElem_inj nd).mp (e6.trans e5)
        omega
    refine ⟨_, keyN Y[k], rfl, ed _ _ hDc, ?_, join Hn Hv, ws ++ [v], ?_, ?_, dj, ?_, ?_, ?_⟩
    · rw [ln k ws wl (by omega)]
      exact Nat.lt_of_le_of_lt (Nat.le_trans (Nat.le_of_lt hk) hn) (by decide)
    · exact Ex.mut (((a2.trans eT).trans ec).trans ed) hD
    · intro b o z
      have n : b ≠ D := fun w => by rw [w, dj] at z; cases z
      rw [upd_ne n]
      exact mj b o z
    · rw [upd_same, putK_new v nk, tk_more hY, List.map_append, List.zip_append (by rw [List.length_map, List.length_take, wl]; omega)]
      rfl
    · simp [wl]
    · rw [tk_more hc, List.map_append]
      exact papp (mS.paired ja pw) (.cons (mS _ _ _ _ jb sv) .nil)
  · have e : k = Y.length := by omega
    subst e
    rw [List.take_length] at hDa
    rw [show Y.length = L.length from hl, List.take_length] at pw
    refine .inl ⟨W.stops Ha G, q (.ref D) Ha (e12.trans a2) ⟨D, ws, upd Hn D (.dK ((Y.map keyN).zip ws)), rfl, fD, fun b o z => ?_, upd_same, mS.paired (Ex.new d) pw⟩⟩
    by_cases n : b = D
    · subst n
      rw [upd_same] at z
      exact ⟨hDa.trans z, .inr fD⟩
    · rw [upd_ne n] at z
      exact mk b o z
end
end Pr
namespace K26
open PySem PySem.Spec PyProof.Rows L2 TM Pr Ep Nw
open Evl (Ex Ev EvT EvA EvL EvU EvO)
section
variable {P : Program} {w : World} {K : PySem.W.Frag} {mg : Str → Option Value} {base : Heap} {A : Adr}
theorem ev_chkC {σ : L2.St} {H : Hp} {i : Nat} {D : Ends} {tz : TS} {L : Lanes} {C p : Addr} (hi : σ[i]? = some (some (.ref p))) (hC : CAt C H p L) (k : ∀ H1, Ex H H1 → tz D σ H1) : tSeq (tDrop (tCall (spCheckC C) [] E0 (tCons (tVar i) tNil))) tz D σ H :=
  ⟨_, hi, L, p, rfl, hC, fun H1 e1 => k H1 e1⟩
theorem ok_Web_init (T : Txt K mg A) : FnOk P w K mg base CX0 8 A.Web_init A.Web_init_fd ["self", "country", "books"] (spWInit A.Web A.Country) := by
  refine T.F_Web_init.ok sc_Web_init (fun vs H Q E h => ?_) (fun cdv A' outer s H vs Q E hr h => ?_)
  · obtain ⟨B0, L, vt, p, dx, c, v, Bs, rfl, _⟩ := h
    rfl
  · obtain ⟨B0, L, vt, p, dx, c, v, Bs, rfl, ho, eB, fp, hC, G, hbs, hbl, gbs, k⟩ := h
    refine ⟨_, (pss_cons (ps_expr (pe_call (ok_check_country T) (hr.mono (by decide)) (by rfl) T.m_check_country T.F_check_country.kp T.b_check_country .nil pass0 (pa_cons (pv 1) pa_nil))) (pss_cons (ps_set (i := 3) sc_Web_init.nd rfl (Or.inl rfl) (pe_prop (pv 1) T.cl_Country T.pr_Country_yards (ok_Country_yards T) (hr.mono (by decide)) T.b_Country_yards .nil pass0 rfl)) (pss_cons (ps_if (PW.pt (pw_or (pt_not (pt_val (pe_call (ok_is_row T) (hr.mono (by decide)) (by rfl) T.m_is_row T.F_is_row.kp T.b_is_row .nil pass0 (pa_cons (pv 2) pa_nil)))) (pw_or1 (pt_cmpR op_ne (show PE _ _ (tCB (rLenA K) _) from (pe_callB (id := "len") call_len (by rfl) T.n_len (by decide +kernel) (pa_cons (pv 2) pa_nil))) (show PE _ _ (tCB (rLenA K) _) from (pe_callB (id := "len") call_len (by rfl) T.n_len (by decide +kernel) (pa_cons (pv 3) pa_nil))) (nomark _))))) (pss_one ps_never) pss_nil) (pss_cons (ps_for PassesOwn.never rfl (pi_zip (by rfl) T.n_zip (pa_cons (pv 3) (pa_cons (pv 2) pa_nil))) (show PG _ _ (gTup K 2 _) from pg_tup rfl (pgs_cons (pg_name (i := 4) sc_Web_init.nd rfl (Or.inl rfl)) (pgs_cons (pg_name (i := 5) sc_Web_init.nd rfl (Or.inl rfl)) pgs_nil))) (pss_one (ps_expr (pe_call (ok_check_book T) (hr.mono (by decide)) (by rfl) T.m_check_book T.F_check_book.kp T.b_check_book .nil pass0 (pa_cons (pv 1) (pa_cons (pv 4) (pa_cons (pv 5) pa_nil))))))) (pss_cons (ps_fld (pv 0) (pv 1) rfl) (pss_one (ps_fld (pv 0) (pe_dc (own := [("yard", 4), ("book", 5)]) rfl sc_Web_init.nd (pi_zip (by rfl) T.n_zip (pa_cons (pv 3) (pa_cons (pv 2) pa_nil))) (blkOk_by (N := n_Web_init) (sc := defScope s_Web_init) (by decide +kernel)) (fun _ _ _ _ _ => (show PG _ _ (gTup K 2 _) from pg_tup rfl (pgs_cons (pg_name (i := 4) sc_Web_init.nd rfl (Or.inl rfl)) (pgs_cons (pg_name (i := 5) sc_Web_init.nd rfl (Or.inl rfl)) pgs_nil)))) (fun _ _ _ _ _ => pts_nil) (fun _ _ _ _ _ => (pv 4)) (fun _ _ _ _ _ => (pe_call (ok_copied_book T) (hr.mono (by decide)) (by rfl) T.m_copied_book T.F_copied_book.kp T.b_copied_book .nil pass0 (pa_cons (pv 5) pa_nil)))) rfl))))))), ?_⟩
    obtain ⟨b, vs, rfl, hb, hpb⟩ := hbs
    have hvl : vs.length = (yardsL L).length := by rw [PySem.Paired.length hpb, hbl]
    have hym := G.most
    refine ev_chkC rfl (hC.ex eB) fun H1 e1 => ?_
    have x1 := eB.trans e1
    refine p_asg (evp_prop (R := rYardsG) (Evl.ev_var rfl) (hC.ex x1)) fun v2 H2 e2 h => ?_
    obtain ⟨ya, rfl, fya, hya⟩ := h
    have x2 := x1.trans e2
    have ho2 := e2 _ _ (e1 _ _ ho)
    have nyp : ya ≠ p := ne_of hya ho2 (fun z => nomatch z)
    have f0 : B0 ya = none := Evl.fresh_back x1 fya
    have fH : H ya = none := Evl.fresh_back e1 fya
    let B1 : Hp := upd B0 ya (.lst (vIs (yardsL L)))
    have e01 : Ex B0 B1 := Ex.new f0
    have e12 : Ex B1 H2 := fun q o z => by
      by_cases n : q = ya
      · subst n
        rw [show B1 q = some (.lst (vIs (yardsL L))) from upd_same] at z
        cases z
        exact hya
      · rw [show B1 q = B0 q from upd_ne n] at z
        exact x2 _ _ z
    have p1 : B1 p = none := by rw [show B1 p = B0 p from upd_ne nyp.symm]; exact fp
    have ya1 : B1 ya = some (.lst (vIs (yardsL L))) := upd_same
    have hb1 := e01 _ _ hb
    have hC1 := hC.ex e01
    have hpb1 := moBk.paired e01 hpb
    have or1 : ∀ q o, B1 q = some o → B0 q = some o ∨ H q = none := fun q o z => by
      by_cases n : q = ya
      · subst n
        exact .inr fH
      · rw [show B1 q = B0 q from upd_ne n] at z
        exact .inl z
    generalize B1 = B1 at e12 p1 ya1 hb1 hC1 hpb1 or1 e01
    show tSeq (tIfS _ _ tNext) _ _ ([some (.ref p), some (.ref c), some (.ref b), some (.ref ya), none, none]) H2
    have len : ∀ {H3 : Hp}, Ex B1 H3 → Ev (tOp rNe (tCB (rLenA K) (tCons (tVar 2) tNil)) (tCB (rLenA K) (tCons (tVar 3) tNil))) [some (.ref p), some (.ref c), some (.ref b), some (.ref ya), none, none] H3 (.bl false) := fun e3 => Evl.ev_is (Evl.ev_op (ev_lenL (Evl.ev_var rfl) (Evl.sq_of (e3 _ _ hb1))) (ev_lenL (Evl.ev_var rfl) (Evl.sq_of (e3 _ _ ya1))) (Evl.rv_ne rfl)) (by rw [hvl, List.length_map]; simp)
    refine p_skip (Evl.et_or (a := false) (b := false) (Evl.et_is (Evl.et_not (a := true) (Evl.et_B (ev_isRow (S := BkR) (l := Bs) (va1 rfl) ⟨b, vs, rfl, .inl (e12 _ _ hb1), moBk.paired e12 hpb1⟩))) rfl) (fun _ => Evl.et_test (len e12))) fun H3 e3 => ?_
    have x3 := e12.trans e3
    have ho3 := e3 _ _ ho2
    refine q_zip (Evl.ev_var rfl) (Evl.ev_var rfl) (x3 _ _ ya1) (x3 _ _ hb1) (by rw [List.length_map]; exact hvl.symm) (fun σ' => ∃ y4 y5, σ' = [some (.ref p), some (.ref c), some (.ref b), some (.ref ya), y4, y5]) ⟨_, _, rfl⟩ (fun n x y σ' H' D' hx hy hs e' nx => ?_) (fun σ' H4 hs e4 => ?_)
    · obtain ⟨y4, y5, rfl⟩ := hs
      have hyn : ∃ u, (yardsL L)[n]? = some u ∧ x = vI u := by
        unfold vIs at hx
        rw [List.getElem?_map] at hx
        cases hh : (yardsL L)[n]? with
        | none => rw [hh] at hx; cases hx
        | some u => rw [hh] at hx; exact ⟨u, rfl, (Option.some.inj hx).symm⟩
      obtain ⟨u, hu, rfl⟩ := hyn
      obtain ⟨B, hB, rB⟩ := pix hpb1 hy
      have hyu := List.mem_of_getElem? hu
      refine p_drop1 (P := Is .non) (evp_callA (vs := [.ref c, vI u, y]) (vb3 rfl rfl rfl) (fun H5 e5 Q' q' => ⟨L, c, u, y, B, rfl, hC1.ex ((x3.trans e').trans e5), (mem_yards.mp hyu).1, by have := G.deg u; omega, moBk _ _ _ _ ((x3.trans e').trans e5) rB, gbs n u B hu hB, fun H6 e6 => q' _ H6 e6 rfl⟩) (fun _ _ _ _ _ _ _ h => h)) fun _ H5 e5 _ => nx _ _ ⟨_, _, rfl⟩ e5
    · obtain ⟨y4, y5, rfl⟩ := hs
      have x4 := x3.trans e4
      have ho4 := e4 _ _ ho3
      refine p_fld (P := Is (.ref c)) (evp_ev (Evl.ev_var rfl)) rfl ho4 T.cl_Web T.na_Web_country (by decide) fun v5 H5 e5 hv => ?_
      subst hv
      have x5 := x4.trans e5
      have x6 : Ex B1 (upd H5 p (.ins A.Web dx (putF "_country" (.ref c) []))) := Ex.mut x5 p1
      refine p_fld1 (EvP.mono x6 (dcZ (S := LstOf AltL) moAL.lst (Evl.ev_var rfl) (Evl.ev_var rfl) ya1 hb1 hpb1 hbl.symm (yards_nodup L) (by omega) (fun n x => [some (.ref p), some (.ref c), some (.ref b), some (.ref ya), some (vI n), some x]) (fun _ _ => rfl) (fun _ _ => rfl) (fun _ _ => Evl.ev_var rfl) (fun B => B) (fun n B x hB rB => ?_))) rfl upd_same T.cl_Web T.na_Web_books (by show 1 < 1000; decide) fun v7 H7 e7 h => ?_
      · refine EvP.imp (P := NewLst AltL B1 B) (evp_callA (vs := [x]) (va1 rfl) (fun H8 e8 Q' q' => ⟨B1, x, B, e8, rfl, rB, ?_, fun z H9 e9 hz => q' z H9 e9 hz⟩) (fun _ _ _ _ _ eb _ h => h.back eb)) fun z Ha Hb _ _ h => h.r
        obtain ⟨i, hi, e⟩ := List.mem_iff_getElem.mp hB
        obtain ⟨y, hy⟩ : ∃ y, (yardsL L)[i]? = some y := ⟨_, List.getElem?_eq_getElem (by omega)⟩
        have := (gbs i y B hy (by rw [List.getElem?_eq_getElem hi, e])).most
        omega
      obtain ⟨d, ws, Hn, rfl, fd, mk, hd, hws⟩ := h
      rw [List.map_id'] at hws
      have mk0 : Mk B1 (upd H5 p (.ins A.Web dx (putF "_country" (.ref c) []))) H7 B1 := fun q o z => ⟨(x6.trans e7) _ _ z, .inl z⟩
      obtain ⟨mj, ja, jb⟩ := mk.join mk0
      have pn : join Hn B1 p = none := by
        cases e : join Hn B1 p with
        | none => rfl
        | some o =>
          rcases (mj p o e).2 with z | z
          · rw [p1] at z; cases z
          · rw [upd_same] at z; cases z
      have eJ : Ex (join Hn B1) (upd (join Hn B1) p (.ins A.Web dx (wf c d))) := Ex.new pn
      refine k _ (upd (join Hn B1) p (.ins A.Web dx (wf c d))) (fun q o hq n => ?_) (fun q o hq => ?_) ⟨dx, c, d, ws, upd_same, hC1.ex (jb.trans eJ), eJ _ _ (ja _ _ hd), (moAL.lst).paired (ja.trans eJ) hws, hbl⟩
      · rw [upd_ne n]
        refine e7 _ _ ?_
        rw [upd_ne n]
        exact ((e1.trans e2).trans (e3.trans (e4.trans e5))) _ _ hq
      · by_cases n : q = p
        · subst n
          rw [upd_same] at hq ⊢
          exact ⟨hq, .inr (.inr rfl)⟩
        · rw [upd_ne n] at hq ⊢
          obtain ⟨z1, z2⟩ := mj q o hq
          refine ⟨z1, ?_⟩
          rcases z2 with z | z
          · exact (or1 q o z).imp id .inl
          · refine .inr (.inl ?_)
            rw [upd_ne n] at z
            exact Evl.fresh_back ((e1.trans e2).trans (e3.trans (e4.trans e5))) z
end
end K26

set_option Elab.async false
set_option linter.all false
set_option maxRecDepth 100000
set_option maxHeartbeats 4000000
namespace Pr
open PySem PySem.Spec PyProof.Rows L2 TM Ep Nw
open Evl (Ex Ev EvT EvA EvL EvU EvO)
theorem evp_wc {CW C : Addr} {σ : L2.St} {H : Hp} {te : TE} {p : Addr} {L : Lanes} {Bs : List Bk} (h : Ev te σ H (.ref p)) (hW : WAt CW C H p L Bs) : EvP (tProp CW (spWCountry CW C) [] E0 te) σ H (fun v _ Hb => ∃ c, v = .ref c ∧ CAt C Hb c L) := fun H1 e Q q =>
  h H1 e _ fun H2 e2 => by
    have hW2 := hW.ex (e.trans e2)
    obtain ⟨dx, c, d, ws, ho, _⟩ := id hW2
    exact ⟨p, dx, _, rfl, ho, L, Bs, p, rfl, hW2, fun c H3 e3 hC => q _ H3 (e2.trans e3) ⟨c, rfl, hC.ex e3⟩⟩
theorem evp_wb {CW C : Addr} {σ : L2.St} {H : Hp} {te ta : TE} {p : Addr} {L : Lanes} {Bs : List Bk} {i y : Nat} {B : Bk} (h : Ev te σ H (.ref p)) (h2 : Ev ta σ H (vI y)) (hW : WAt CW C H p L Bs) (hi : (yardsL L)[i]? = some y) (hB : Bs[i]? = some B) (hl : B.length ≤ 1000) : EvP (tMeth CW "book" (spWBook CW C) [] E0 te (tCons ta tNil)) σ H (NewLst AltL H B) := fun H1 e Q q =>
  h H1 e _ fun H2 e2 => by
    have hW2 := hW.ex (e.trans e2)
    obtain ⟨dx, c, d, ws, ho, _⟩ := id hW2
    refine ⟨p, dx, _, rfl, ho, wf_no (by rfl) (by rfl), ?_⟩
    refine h2 H2 (e.trans e2) _ fun H3 e3 => ?_
    exact ⟨H, L, Bs, p, i, y, B, rfl, (e.trans e2).trans e3, hW, hi, hB, hl, fun z H4 e4 hz => q z H4 ((e2.trans e3).trans e4) (hz.back (e2.trans e3))⟩
end Pr
namespace K26
open PySem PySem.Spec PyProof.Rows L2 TM Pr Ep Nw
open Evl (Ex Ev EvT EvA EvL EvU EvO)
section
variable {P : Program} {w : World} {K : PySem.W.Frag} {mg : Str → Option Value} {base : Heap} {A : Adr}
theorem ok_Web_country (T : Txt K mg A) : FnOk P w K mg base CX0 1 A.Web_country A.Web_country_fd ["self"] (spWCountry A.Web A.Country) := by
  refine T.F_Web_country.ok sc_Web_country (fun vs H Q E h => ?_) (fun cdv A' outer s H vs Q E hr h => ?_)
  · obtain ⟨L, Bs, p, rfl, _⟩ := h
    rfl
  · obtain ⟨L, Bs, p, rfl, ⟨dx, c, d, ws, ho, hC, _⟩, k⟩ := h
    refine ⟨_, (pss_one (ps_ret (show PE _ _ (tFld K _ _) from pe_fld (pv 0) rfl))), ?_⟩
    refine p_ret (P := Is (.ref c)) (evp_ev (ev_fld rfl ho T.cl_Web T.na_Web_country wf_c)) fun v H1 e1 hv => ?_
    subst hv
    exact k c H1 e1 hC
theorem ok_Web_book (T : Txt K mg A) : FnOk P w K mg base CX0 4 A.Web_book A.Web_book_fd ["self", "yard"] (spWBook A.Web A.Country) := by
  refine T.F_Web_book.ok sc_Web_book (fun vs H Q E h => ?_) (fun cdv A' outer s H vs Q E hr h => ?_)
  · obtain ⟨B0, L, Bs, p, i, y, B, rfl, _⟩ := h
    rfl
  · obtain ⟨B0, L, Bs, p, i, y, B, rfl, e0, ⟨dx, c, d, ws, ho, hC, hd, hws, hl⟩, hy, hB, hBl, k⟩ := h
    have hu := hu_of hr
    refine ⟨_, (pss_cons (ps_if (pt_not (pt_val (pe_call (ok_is_yard T) (hr.mono (by decide)) (by rfl) T.m_is_yard T.F_is_yard.kp T.b_is_yard .nil pass0 (pa_cons (show PE _ _ (tFld K _ _) from pe_fld (pv 0) rfl) (pa_cons (pv 1) pa_nil))))) (pss_one ps_never) pss_nil) (pss_one (ps_ret (pe_call (ok_copied_book T) (hr.mono (by decide)) (by rfl) T.m_copied_book T.F_copied_book.kp T.b_copied_book .nil pass0 (pa_cons (pe_dget hu (show PE _ _ (tFld K _ _) from pe_fld (pv 0) rfl) (pv 1) (fun _ _ => rfl)) pa_nil))))), ?_⟩
    have hym := List.mem_of_getElem? hy
    refine p_skip (Evl.et_is (Evl.et_not (a := true) (Evl.et_B (ev_evp (evp_callA (vs := [.ref c, vI y]) (Evl.ea_cons (ev_fld rfl (e0 _ _ ho) T.cl_Web T.na_Web_country wf_c) (Evl.ea_cons (Evl.ev_var rfl) Evl.ea_nil)) (fun H2 e2 Q q => ⟨L, c, y, rfl, hC.ex (e0.trans e2), fun H3 e3 => q _ H3 e3 (by rw [decide_eq_true hym]; rfl)⟩) (fun _ _ _ _ _ _ _ h => h))))) rfl) fun H1 e1 => ?_
    have x1 := e0.trans e1
    obtain ⟨x, hx, rx⟩ := piy hws hB
    have hv : valV (((yardsL L).map keyN).zip ws) (keyN y) = some x := by
      have nd : ((yardsL L).map keyN).Nodup := List.pairwise_map.mpr ((yards_nodup L).imp fun h e => h (by
        have : ((_ : Nat) : Int) = ((_ : Nat) : Int) := Sum.inl.inj e
        omega))
      rw [find_zip _ ws i (keyN y) nd (by rw [List.length_map, ← hl, PySem.Paired.length hws]) (by rw [List.getElem?_map, hy]; rfl), hx]
    refine p_ret (P := NewLst AltL B0 B) (evp_callA (vs := [x]) (Evl.ea_cons ?_ Evl.ea_nil) (fun H5 e5 Q q => ⟨B0, x, B, x1.trans e5, rfl, bkL_R rx, hBl, fun z H6 e6 hz => q z H6 e6 hz⟩) (fun _ _ _ _ _ eb _ h => h.back eb)) fun z H2 e2 hz => k z H2 (e1.trans e2) (hz.back e1)
    intro H2 e2 Q q
    refine ev_fld rfl (x1 _ _ ho) T.cl_Web T.na_Web_books wf_b H2 e2 _ fun H3 e3 => ?_
    exact ⟨_, rfl, d, _, rfl, .inl ⟨_, keyN y, .inl (((x1.trans e2).trans e3) _ _ hd), rfl, hv.symm⟩, q H3 e3⟩
theorem ok_check_web (T : Txt K mg A) : FnOk P w K mg base CX0 1 A.check_web A.check_web_fd ["web"] (spCheckW A.Web A.Country) := by
  refine T.F_check_web.ok sc_check_web (fun vs H Q E h => ?_) (fun cdv A' outer s H vs Q E hr h => ?_)
  · obtain ⟨L, Bs, p, rfl, _⟩ := h
    rfl
  · obtain ⟨L, Bs, p, rfl, hW, k⟩ := h
    refine ⟨_, (pss_one (ps_if (pt_not (pt_val (show PE _ _ (tCB (rIsi K) _) from (pe_callB (id := "isinstance") call_isi (by rfl) T.n_isinstance (by decide +kernel) (pa_cons (pv 0) (pa_cons (pe_glob (v := .ref A.Web) rfl T.m_Web rfl) pa_nil)))))) (pss_one ps_never) pss_nil)), ?_⟩
    obtain ⟨dx, c, d, ws, ho, _⟩ := id hW
    have I := T.ic_Web
    refine p_skip1 (Evl.et_is (Evl.et_not (a := true) (evt_P (evp_ev (ev_cb2 (z := .bl true) (Evl.ev_var rfl) Evl.ev_c fun H1 e1 Q q => ⟨_, _, _, _, true, rfl, .own _, .base (.ins (e1 _ _ ho) I.cl I.ha I.hn I.htk I.hm), I.me, q⟩)))) rfl) fun H1 e1 => k H1 e1
theorem ok_lets (T : Txt K mg A) : FnOk P w K mg base CX0 7 A.lets A.lets_fd ["web", "yard", "load"] (spLets A.Web A.Country) := by
  refine T.F_lets.ok sc_lets (fun vs H Q E h => ?_) (fun cdv A' outer s H vs Q E hr h => ?_)
  · obtain ⟨L, vt, Bs, p, i, y, B, u, l, rfl, _⟩ := h
    rfl
  · obtain ⟨L, vt, Bs, p, i, y, B, u, l, rfl, hW, hG, hy, hB, G, hl, Gl, hs, k⟩ := h
    refine ⟨_, (pss_cons (ps_expr (pe_call (ok_check_web T) (hr.mono (by decide)) (by rfl) T.m_check_web T.F_check_web.kp T.b_check_web .nil pass0 (pa_cons (pv 0) pa_nil))) (pss_cons (ps_expr (pe_call (ok_check_yard T) (hr.mono (by decide)) (by rfl) T.m_check_yard T.F_check_yard.kp T.b_check_yard .nil pass0 (pa_cons (pe_prop (pv 0) T.cl_Web T.pr_Web_country (ok_Web_country T) (hr.mono (by decide)) T.b_Web_country .nil pass0 rfl) (pa_cons (pv 1) pa_nil)))) (pss_cons (ps_expr (pe_call (ok_check_load T) (hr.mono (by decide)) (by rfl) T.m_check_load T.F_check_load.kp T.b_check_load .nil pass0 (pa_cons (pe_prop (pv 0) T.cl_Web T.pr_Web_country (ok_Web_country T) (hr.mono (by decide)) T.b_Web_country .nil pass0 rfl) (pa_cons (pv 1) (pa_cons (pv 2) pa_nil))))) (pss_one (ps_ret (pe_call (ok_stands_in T) (hr.mono (by decide)) (by rfl) T.m_stands_in T.F_stands_in.kp T.b_stands_in .nil pass0 (pa_cons (pv 2) (pa_cons (pe_meth (pv 0) T.cl_Web T.me_Web_book (ok_Web_book T) (hr.mono (by decide)) T.b_Web_book .nil pass0 (pa_cons (pv 1) pa_nil)) pa_nil)))))))), ?_⟩
    have hym := List.mem_of_getElem? hy
    refine p_drop (P := Is .non) (evp_callA (vs := [.ref p]) (va1 rfl) (fun H2 e2 Q q => ⟨L, Bs, p, rfl, hW.ex e2, fun H3 e3 => q _ H3 e3 rfl⟩) (fun _ _ _ _ _ _ _ h => h)) fun _ H1 e1 _ => ?_
    refine p_drop (P := Is .non) (evp_call2 (evp_wc (Evl.ev_var rfl) (hW.ex e1)) (Evl.ev_var rfl) (fun v Ha Hb Hc ea eb ec hv Q q => ?_)) fun _ H2 e2 _ => ?_
    · obtain ⟨c, rfl, hC⟩ := hv
      exact ⟨L, c, y, rfl, hC.ex ec, hym, fun H3 e3 => q _ H3 e3 rfl⟩
    have x2 := e1.trans e2
    refine p_drop (P := Is .non) (fun H5 e5 Q q => ?_) fun _ H3 e3 _ => ?_
    · refine evp_wc (Evl.ev_var rfl) (hW.ex x2) H5 e5 _ fun v H6 e6 hv => ?_
      obtain ⟨c, rfl, hC⟩ := hv
      exact ⟨_, rfl, _, rfl, L, c, y, u, l, rfl, hC, (mem_yards.mp hym).1, moLd _ _ _ _ ((x2.trans e5).trans e6) hl, Gl, hs, fun H7 e7 => q _ H7 (e6.trans e7) rfl⟩
    have x3 := x2.trans e3
    refine p_ret (P := Is (.bl (standsB B l))) (evp_call2' (Evl.ev_var rfl) (evp_wb (Evl.ev_var rfl) (Evl.ev_var rfl) (hW.ex x3) hy hB (by have := G.most; omega)) (fun v Ha Hb Hc ea eb ec hv Q q => ?_)) fun z H4 e4 hz => ?_
    · exact ⟨u, l, v, B, rfl, moLd _ _ _ _ ((x3.trans ea).trans (eb.trans ec)) hl, hs, bkL_R (newLst_at moAL hv), by have := G.most; omega, fun a ha => by have := (G.as_ a ha).few; omega, fun H7 e7 => q _ H7 e7 rfl⟩
    · subst hz
      exact k H4 (x3.trans e4)
end
end K26

set_option Elab.async false
set_option linter.all false
set_option maxRecDepth 100000
set_option maxHeartbeats 4000000
namespace Pr
open PySem PySem.Spec PyProof.Rows L2 TM Ep Nw
open Evl (Ex Ev EvT EvA EvL EvU EvO)
/-- one of a list, whatever it holds -/
def spPickV : Sp := fun vs H Q _ => ∃ (p a : Addr) (xs : List V), vs = [.ref p, .ref a] ∧ PotAt H p ∧ H a = some (.lst xs) ∧ a ≠ p ∧ 0 < xs.length ∧ xs.length ≤ 2000 ∧ ∀ (i : Nat) (x : V) (H' : Hp), xs[i]? = some x → PotAt H' p → ExB p H H' → Q x H'
def spMixed : Sp := fun vs H Q _ => ∃ (p a : Addr) (xs : List V), vs = [.ref p, .ref a] ∧ PotAt H p ∧ H a = some (.lst xs) ∧ a ≠ p ∧ xs.length ≤ 2000 ∧ ∀ (c : Addr) (ys : List V) (H' : Hp), ys.Perm xs → H' c = some (.lst ys) → H c = none → ExB p H H' → PotAt H' p → Q (.ref c) H'
structure StM (H0 H : Hp) (p lf pl : Addr) (l q : List V) : Prop where
  pot : PotAt H p
  ex : ExB p H0 H
  hf : H lf = some (.lst l)
  hp : H pl = some (.lst q)
  ff : H0 lf = none
  fp : H0 pl = none
  nfp : lf ≠ p
  npp : pl ≠ p
  nfq : lf ≠ pl
theorem StM.byPot {H0 H H' : Hp} {p lf pl : Addr} {l q : List V} (S : StM H0 H p lf pl l q) (e : ExB p H H') (hp : PotAt H' p) : StM H0 H' p lf pl l q :=
  { S with pot := hp, ex := S.ex.trans e, hf := e _ _ S.hf S.nfp, hp := e _ _ S.hp S.npp }
theorem StM.byEx {H0 H H' : Hp} {p lf pl : Addr} {l q : List V} (S : StM H0 H p lf pl l q) (e : Ex H H') : StM H0 H' p lf pl l q := S.byPot (.of e) (S.pot.ex e)
theorem StM.pop {H0 H : Hp} {p lf pl : Addr} {l l' q : List V} (S : StM H0 H p lf pl l q) : StM H0 (upd H lf (.lst l')) p lf pl l' q :=
  { S with pot := S.pot.put S.nfp, ex := S.ex.mut S.ff, hf := upd_same, hp := by rw [upd_ne S.nfq.symm]; exact S.hp }
theorem StM.put {H0 H : Hp} {p lf pl : Addr} {l q q' : List V} (S : StM H0 H p lf pl l q) : StM H0 (upd H pl (.lst q')) p lf pl l q' :=
  { S with pot := S.pot.put S.npp, ex := S.ex.mut S.fp, hp := upd_same, hf := by rw [upd_ne S.nfq]; exact S.hf }
theorem eraseV_perm : ∀ {l : List V} {d : Nat} {x : V}, l[d]? = some x → l.Perm (x :: l.eraseIdx d)
  | [], d, x, h => by simp at h
  | a :: l, 0, x, h => by
    have e : a = x := Option.some.inj h
    subst e
    exact List.Perm.refl _
  | a :: l, d + 1, x, h => ((eraseV_perm (l := l) (d := d) (x := x) h).cons a).trans (List.Perm.swap _ _ _)
end Pr
namespace K26
open PySem PySem.Spec PyProof.Rows L2 TM Pr Ep Nw
open Evl (Ex Ev EvT EvA EvL EvU EvO)
section
variable {P : Program} {w : World} {K : PySem.W.Frag} {mg : Str → Option Value} {base : Heap} {A : Adr}
theorem ok_l_pot (T : Txt K mg A) : FnOk P w K mg base CX0 1 A.l_pot A.l_pot_fd ["_law_script", "_law_k"] (spPot K) := by
  refine T.F_l_pot.ok sc_l_pot (fun vs H Q E h => ?_) (fun cdv A' outer s H vs Q E hr h => ?_)
  · obtain ⟨a, ns, k, rfl, _⟩ := h
    rfl
  · obtain ⟨a, ns, k, rfl, hS, hk, q⟩ := h
    refine ⟨_, (pss_cons (ps_set (i := 2) sc_l_pot.nd rfl (Or.inl rfl) (pe_ifExp (pt_cmpR op_lt (pv 1) (show PE _ _ (tCB (rLenA K) _) from (pe_callB (id := "len") call_len (by rfl) T.n_len (by decide +kernel) (pa_cons (pv 0) pa_nil))) (nomark _)) (pe_callB (id := "abs") call_abs (by rfl) T.n_abs (by decide +kernel) (pa_cons (show PE _ _ (tOp (rIxL K) _ _) from pe_ix ix_list (pv 0) (pv 1) (fun _ _ => rfl)) pa_nil)) (pe_op op_add (pe_op op_mul pe_int (pv 1)) pe_int))) (pss_one (ps_ret (pe_lst (pa_cons (pe_callB (id := "max") (call_max2 rfl) (by rfl) T.n_max (by decide +kernel) (pa_cons pe_int (pa_cons (pe_op op_sub (pv 2) (pe_op op_pow pe_int pe_int)) pa_nil))) (pa_cons (pe_op op_add (pe_op op_modN (pe_callTy (T := "int") call_int1 (by rfl) T.n_int (by decide +kernel) (pa_cons (pe_op op_add (pe_op op_add (pe_op op_mul (pe_op op_modN (pe_callTy (T := "int") call_int1 (by rfl) T.n_int (by decide +kernel) (pa_cons (pv 2) pa_nil)) pe_int) pe_int) (pe_op op_mul pe_int (pv 1))) pe_int) pa_nil)) pe_int) pe_int) pa_nil)))))), ?_⟩
    have hcell : EvP (tIf (tTest (tOp (rI0 fun i j => V.bl (decide (i < j))) (tVar 1) (tCB (rLenA K) (tCons (tVar 0) tNil)))) (tCB (fun xs H Q => ∃ i, xs = [.int i] ∧ Q (.int (if i < 0 then -i else i)) H) (tCons (tOp (rIxL K) (tVar 0) (tVar 1)) tNil)) (tOp (rI0 fun i j => V.int (i + j)) (tOp (rI CMul fun i j => V.int (i * j)) (tC (.int 191)) (tVar 1)) (tC (.int 261)))) [some (.ref a), some (vI k), none] H (fun v _ _ => ∃ c : Int, v = .int c ∧ 0 ≤ c) := by
      intro H1 e1 Q' q'
      have hS1 := Evl.ex_l e1 hS
      refine ⟨_, rfl, _, rfl, .ref a, _, rfl, .inl ⟨_, hS1, rfl⟩, _, _, rfl, rfl, _, rfl, ?_⟩
      refine ite2 (fun hc => ?_) (fun hc => ?_)
      · have hlt : k < ns.length := by
          have := of_decide_eq_true hc
          rw [List.length_map] at this
          omega
        refine ⟨_, rfl, _, rfl, a, _, _, .int ns[k], rfl, rfl, hS1, at_of rfl (by rw [List.getElem?_map, List.getElem?_eq_getElem hlt]; rfl), ns[k], rfl, q' _ H1 (Ex.refl _) ⟨_, rfl, ?_⟩⟩
        split <;> omega
      · refine ⟨_, rfl, _, _, rfl, rfl, .inl ⟨by decide, by decide⟩, _, _, rfl, rfl, q' _ H1 (Ex.refl _) ⟨_, rfl, ?_⟩⟩
        omega
    refine p_asg hcell fun v H1 e1 hv => ?_
    obtain ⟨c, rfl, hc⟩ := hv
    refine ⟨_, rfl, _, _, rfl, rfl, (by exact ⟨by decide, by decide, by decide⟩), _, _, rfl, rfl, _, _, rfl, ?_⟩
    refine ⟨_, rfl, .inl ⟨c, rfl, c, _, rfl, rfl, (by show (2147483549 : Int) ≠ 0; decide), _, _, rfl, rfl, .inr ⟨by decide, by decide⟩, _, rfl, _, _, rfl, rfl, .inl ⟨by decide, by decide⟩, _, _, rfl, rfl, _, _, rfl, rfl, .inl ⟨_, rfl, _, _, rfl, rfl, (by show (2147483579 : Int) ≠ 0; decide), _, _, rfl, rfl, ?_⟩⟩⟩
    refine ⟨(by show 2 ≤ sizeLine; decide), fun p hp => ?_⟩
    refine q p _ (e1.trans (Ex.new hp)) (Evl.fresh_back e1 hp) ⟨_, _, upd_same, ?_, ?_, ?_⟩
    · split <;> omega
    · have := Int.fmod_nonneg_of_pos ((c.fmod 2147483549) * 48271 + 5681 * (k : Int) + 291) (b := 2147483579) (by decide)
      omega
    · have := Int.fmod_lt_of_pos ((c.fmod 2147483549) * 48271 + 5681 * (k : Int) + 291) (b := 2147483579) (by decide)
      omega
theorem ok_l_draw (T : Txt K mg A) : FnOk P w K mg base CX0 1 A.l_draw A.l_draw_fd ["_law_pot_here", "_law_many_here"] spDraw := by
  refine T.F_l_draw.ok sc_l_draw (fun vs H Q E h => ?_) (fun cdv A' outer s H vs Q E hr h => ?_)
  · obtain ⟨p, m, rfl, _⟩ := h
    rfl
  · obtain ⟨p, m, rfl, ⟨a, b, hp, ha, hb, hb2⟩, hm, hm2, k⟩ := h
    refine ⟨_, (pss_cons (ps_if (pt_cmpR op_gt (show PE _ _ (tOp (rIxL K) _ _) from pe_ix ix_list (pv 0) pe_int (fun _ _ => rfl)) pe_int (nomark _)) (pss_cons (ps_asg (pe_callB (id := "divmod") call_divmod (by rfl) T.n_divmod (by decide +kernel) (pa_cons (show PE _ _ (tOp (rIxL K) _ _) from pe_ix ix_list (pv 0) pe_int (fun _ _ => rfl)) (pa_cons (pv 1) pa_nil))) (show PG _ _ (gTup K 2 _) from pg_tup rfl (pgs_cons (pg_sub (pv 0) pe_int set_list) (pgs_cons (pg_name (i := 2) sc_l_draw.nd rfl (Or.inl rfl)) pgs_nil)))) (pss_one (ps_ret (pv 2)))) pss_nil) (pss_cons (ps_asg (pe_op op_modN (pe_callTy (T := "int") call_int1 (by rfl) T.n_int (by decide +kernel) (pa_cons (pe_op op_add (pe_op op_mul (show PE _ _ (tOp (rIxL K) _ _) from pe_ix ix_list (pv 0) pe_int (fun _ _ => rfl)) pe_int) pe_int) pa_nil)) pe_int) (pg_sub (pv 0) pe_int set_list)) (pss_one (ps_ret (pe_op op_modN (pe_callTy (T := "int") call_int1 (by rfl) T.n_int (by decide +kernel) (pa_cons (pe_op op_fdiv (pe_op op_modN (pe_callTy (T := "int") call_int1 (by rfl) T.n_int (by decide +kernel) (pa_cons (pe_op op_mul (show PE _ _ (tOp (rIxL K) _ _) from pe_ix ix_list (pv 0) pe_int (fun _ _ => rfl)) (show PE _ _ (tOp (rIxL K) _ _) from pe_ix ix_list (pv 0) pe_int (fun _ _ => rfl))) pa_nil)) pe_int) pe_int) pa_nil)) (pv 1)))))), ?_⟩
    have hc : ∀ (z : Int), CDiv z (m : Int) := fun z => ⟨by omega, by omega⟩
    have item : ∀ {H1 : Hp} {xs : List V} {j : Nat} {v : V}, H1 p = some (.lst xs) → xs[j]? = some v → Ev (tOp (rIxL K) (tVar 0) (tC (.int (j : Int)))) [some (.ref p), some (vI m), none] H1 v := fun h g => Evl.ev_op (Evl.ev_var rfl) Evl.ev_c (Evl.rv_ixL (Evl.sq_of h) (at_of rfl g))
    refine Evl.q_when (Evl.et_test (Evl.ev_op (item (j := 0) hp rfl) Evl.ev_c rv_I0P)) (fun _ H0 e0 => ?_) (fun _ H0 e0 => ?_)
    all_goals
      have hp := e0 _ _ hp
      have k : ∀ (d : Nat) (H' : Hp), d < m → PotAt H' p → ExB p H0 H' → Q (vI d) H' := fun d H' h1 h2 h3 => k d H' h1 h2 ((ExB.of e0).trans h3)
    · -- a digit
      refine ⟨_, rfl, p, _, 0, .int a, rfl, rfl, Evl.sq_of hp, at_of (j := 0) rfl rfl, _, rfl, a, m, rfl, hc a, fun t ht => ?_⟩
      have npt : p ≠ t := ne_of_none hp ht
      refine ⟨t, _, rfl, Evl.st_of upd_same, rfl, _, _, rfl, _, rfl, p, _, 0, 0, rfl, rfl, (by rw [upd_ne npt]; exact hp), (Evl.ixN_nat (j := 0) (by show 0 < 2; decide)), _, _, rfl, rfl, ?_⟩
      have hmod := Int.emod_nonneg a (b := (m : Int)) (by omega)
      have hlt := Int.emod_lt_of_pos a (b := (m : Int)) (by omega)
      refine ⟨_, rfl, ?_⟩
      have e : a % (m : Int) = ((a % (m : Int)).toNat : Int) := by omega
      have z := k (a % (m : Int)).toNat (upd (upd H0 t (.tup [.int (a / m), .int (a % m)])) p (.lst [.int (a / m), .int b])) (by omega) ⟨_, _, upd_same, Int.ediv_nonneg ha (by omega), hb, hb2⟩ (fun c o h n => by rw [upd_ne n, upd_ne (ne_of_none h ht)]; exact h)
      have ev : vI (a % (m : Int)).toNat = V.int (a % (m : Int)) := by show V.int _ = _; rw [← e]
      rw [ev] at z
      exact z
    · -- a number of its own
      have hn := Int.fmod_nonneg_of_pos (b * 39373 + 891) (b := 2147483629) (by decide)
      have hl := Int.fmod_lt_of_pos (b * 39373 + 891) (b := 2147483629) (by decide)
      refine Evl.q_setL (l := p) (xs := [.int a, .int b]) (j := 1) (v := .int ((b * 39373 + 891).fmod 2147483629)) hp (Evl.ev_op (ev_cb1 (Evl.ev_op (Evl.ev_op (item (j := 1) hp rfl) Evl.ev_c (Evl.rv_I (.inr ⟨by decide, by decide⟩))) Evl.ev_c rv_I0P) fun _ _ _ q => .inl ⟨_, rfl, q⟩) Evl.ev_c (Evl.rv_I (by show (2147483629 : Int) ≠ 0; decide))) (Evl.ev_var rfl) Evl.ev_c (by show 1 < 2; decide) fun H1 e1 => ?_
      have es : ([V.int a, V.int b]).set 1 (V.int ((b * 39373 + 891).fmod 2147483629)) = [V.int a, V.int ((b * 39373 + 891).fmod 2147483629)] := by rfl
      rw [es]
      generalize (b * 39373 + 891).fmod 2147483629 = c at hn hl ⊢
      have hp2 : (upd H1 p (.lst [.int a, .int c])) p = some (.lst [.int a, .int c]) := upd_same
      refine ⟨_, rfl, p, _, 1, .int c, rfl, rfl, Evl.sq_of hp2, at_of (j := 1) rfl rfl, _, rfl, p, _, 1, .int c, rfl, rfl, Evl.sq_of hp2, at_of (j := 1) rfl rfl, _, _, rfl, rfl, .inl ⟨by omega, by omega⟩, .inl ⟨_, rfl, _, _, rfl, rfl, (by show (2147483587 : Int) ≠ 0; decide), _, _, rfl, rfl, ⟨by decide, by decide⟩, .inl ⟨_, rfl, _, rfl, _, _, rfl, rfl, (by show (m : Int) ≠ 0; omega), ?_⟩⟩⟩
      have hn2 := Int.fmod_nonneg_of_pos ((c * c).fmod 2147483587 / 13) (b := (m : Int)) (by omega)
      have hl2 := Int.fmod_lt_of_pos ((c * c).fmod 2147483587 / 13) (b := (m : Int)) (by omega)
      have e : ((c * c).fmod 2147483587 / 13).fmod (m : Int) = ((((c * c).fmod 2147483587 / 13).fmod (m : Int)).toNat : Int) := by omega
      have z := k (((c * c).fmod 2147483587 / 13).fmod (m : Int)).toNat (upd H1 p (.lst [.int a, .int c])) (by omega) ⟨_, _, upd_same, ha, hn, by omega⟩ (fun d o h n => by rw [upd_ne n]; exact e1 _ _ h)
      have ev : vI (((c * c).fmod 2147483587 / 13).fmod (m : Int)).toNat = V.int (((c * c).fmod 2147483587 / 13).fmod (m : Int)) := by show V.int _ = _; rw [← e]
      rw [ev] at z
      exact z
theorem ok_l_pick (T : Txt K mg A) : FnOk P w K mg base CX0 2 A.l_pick A.l_pick_fd ["_law_pot_here", "_law_some"] spPickV := by
  refine T.F_l_pick.ok sc_l_pick (fun vs H Q E h => ?_) (fun cdv A' outer s H vs Q E hr h => ?_)
  · obtain ⟨p, a, l, rfl, _⟩ := h
    rfl
  · obtain ⟨p, a, l, rfl, hp, ha, ne, h1, h2, k⟩ := h
    refine ⟨_, (pss_one (ps_ret (show PE _ _ (tOp (rIxL K) _ _) from pe_ix ix_list (pv 1) (pe_call (ok_l_draw T) (hr.mono (by decide)) (by rfl) T.m_l_draw T.F_l_draw.kp T.b_l_draw .nil pass0 (pa_cons (pv 0) (pa_cons (show PE _ _ (tCB (rLenA K) _) from (pe_callB (id := "len") call_len (by rfl) T.n_len (by decide +kernel) (pa_cons (pv 1) pa_nil))) pa_nil))) (fun _ _ => rfl)))), ?_⟩
    refine ⟨_, rfl, _, rfl, _, rfl, .ref a, _, rfl, .inl ⟨_, Evl.sq_of ha, rfl⟩, p, l.length, rfl, hp, h1, h2, fun d H' hd hp' e => ?_⟩
    have ha' := e _ _ ha ne
    have hx : l[d]? = some l[d] := List.getElem?_eq_getElem hd
    exact ⟨a, _, _, l[d], rfl, rfl, Evl.sq_of ha', at_of rfl hx, k d _ H' hx hp' e⟩
theorem ok_l_mixed (T : Txt K mg A) : FnOk P w K mg base CX0 2 A.l_mixed A.l_mixed_fd ["_law_pot_here", "_law_some"] spMixed := by
  refine T.F_l_mixed.ok sc_l_mixed (fun vs H Q E h => ?_) (fun cdv A' outer s H vs Q E hr h => ?_)
  · obtain ⟨p, a, l, rfl, _⟩ := h
    rfl
  · obtain ⟨p, a, xs, rfl, hpot, ha, nap, hn, k⟩ := h
    refine ⟨_, (pss_cons (ps_par (i := 2) (j := 3) (by rfl) sc_l_mixed.nd rfl rfl (by decide) rfl rfl (pa_cons (show PE _ _ (tCB (rListOf K) _) from (pe_callTy (T := "list") call_list_of (by rfl) T.n_list (by decide +kernel) (pa_cons (pv 1) pa_nil))) (pa_cons (pe_lst pa_nil) pa_nil)) (by rfl)) (pss_cons (ps_for PassesOwn.never rfl (pi_range1 (by rfl) T.n_range (pa_cons (show PE _ _ (tCB (rLenA K) _) from (pe_callB (id := "len") call_len (by rfl) T.n_len (by decide +kernel) (pa_cons (pv 1) pa_nil))) pa_nil)) (pg_name (i := 4) sc_l_mixed.nd rfl (Or.inl rfl)) (pss_one (ps_expr (show PE _ _ (tBM K "list" rAppend _ _) from pe_bm PySem.F.plainAttrs_list PySem.F.slot_list_append PySem.F.type_list_append mt_append (pv 3) (pa_cons (show PE _ _ (tBM K "list" rPopAt _ _) from pe_bm PySem.F.plainAttrs_list PySem.F.slot_list_pop PySem.F.type_list_pop mt_popAt (pv 2) (pa_cons (pe_call (ok_l_draw T) (hr.mono (by decide)) (by rfl) T.m_l_draw T.F_l_draw.kp T.b_l_draw .nil pass0 (pa_cons (pv 0) (pa_cons (show PE _ _ (tCB (rLenA K) _) from (pe_callB (id := "len") call_len (by rfl) T.n_len (by decide +kernel) (pa_cons (pv 2) pa_nil))) pa_nil))) pa_nil)) pa_nil))))) (pss_one (ps_ret (pv 3))))), ?_⟩
    refine ⟨_, rfl, a, xs, rfl, .inl (Evl.sq_of ha), fun lf hlf => ⟨(by show 0 ≤ sizeLine; decide), fun pl hpl => ⟨_, _, rfl, ?_⟩⟩⟩
    have lfp : lf ≠ p := fun e => by
      obtain ⟨_, _, z, _⟩ := hpot
      rw [e, z] at hlf
      cases hlf
    have nfq : lf ≠ pl := fun e => by rw [← e, upd_same] at hpl; cases hpl
    have pl0 : H pl = none := by rw [upd_ne nfq.symm] at hpl; exact hpl
    have plp : pl ≠ p := fun e => by
      obtain ⟨_, _, z, _⟩ := hpot
      rw [e, z] at pl0
      cases pl0
    have e0 : Ex H (upd (upd H lf (.lst xs)) pl (.lst [])) := (Ex.new hlf).trans (Ex.new hpl)
    have S0 : StM H (upd (upd H lf (.lst xs)) pl (.lst [])) p lf pl xs [] := ⟨hpot.ex e0, .of e0, by rw [upd_ne nfq, upd_same], upd_same, hlf, pl0, lfp, plp, nfq⟩
    generalize upd (upd H lf (.lst xs)) pl (.lst []) = H1 at S0
    clear e0 hpl
    dsimp only
    show tSeq (tFor _ _ _) _ _ ([some (.ref p), some (.ref a), some (.ref lf), some (.ref pl), none]) H1
    refine Evl.q_forR1 (n := (xs.length : Int)) (Evl.ea_cons (ev_lenL (Evl.ev_var rfl) (Evl.sq_of (S0.ex _ _ ha nap))) Evl.ea_nil) ⟨by omega, by omega⟩ (fun i σ' H' => ∃ y4 l q, σ' = [some (.ref p), some (.ref a), some (.ref lf), some (.ref pl), y4] ∧ StM H H' p lf pl l q ∧ (q ++ l).Perm xs ∧ q.length = i) (fun H2 e2 => ⟨none, xs, [], rfl, S0.byEx e2, List.Perm.refl _, rfl⟩) (fun i σ' H2 hi h => ?_) (fun σ' H2 h => ?_)
    · obtain ⟨y4, l, q, rfl, S, pm, hq⟩ := h
      have hl := pm.length_eq
      rw [List.length_append] at hl
      have hpos : 0 < l.length := by omega
      refine ⟨_, rfl, .inl ⟨rfl, _, .inl (.inl S.hp)⟩, _, rfl, .inl ⟨rfl, _, .inl (.inl S.hf)⟩, _, rfl, _, rfl, _, _, rfl, .inl ⟨_, Evl.sq_of S.hf, rfl⟩, p, l.length, rfl, S.pot, hpos, by omega, fun dd H8 hdd hp8 e8 => ?_⟩
      have T8 := S.byPot e8 hp8
      have hx : l[dd]? = some l[dd] := List.getElem?_eq_getElem hdd
      refine ⟨lf, l, (dd : Int), dd, l[dd], rfl, rfl, T8.hf, by omega, by omega, seqIx hdd, hx, ?_⟩
      have T9 := T8.pop (l' := l.eraseIdx dd)
      refine ⟨pl, q, l[dd], rfl, rfl, T9.hp, szN (by omega), ?_⟩
      have T10 := T9.put (q' := q ++ [l[dd]])
      refine ⟨_, l.eraseIdx dd, q ++ [l[dd]], rfl, T10, ?_, by simp [hq]⟩
      rw [List.append_assoc]
      exact (List.Perm.append_left q (eraseV_perm hx).symm).trans pm
    · obtain ⟨y4, l, q, rfl, S, pm, hq⟩ := h
      have hl := pm.length_eq
      rw [List.length_append] at hl
      have hq2 : q.length = xs.length := by omega
      have : l = [] := List.length_eq_zero_iff.mp (by omega)
      subst this
      rw [List.append_nil] at pm
      exact ⟨_, rfl, k pl q H2 pm S.hp S.fp S.ex S.pot⟩
end
end K26

set_option Elab.async false
set_option linter.all false
set_option maxRecDepth 100000
set_option maxHeartbeats 4000000
namespace Pr
open PySem PySem.Spec PyProof.Rows L2 TM Ep Nw
open Evl (Ex Ev EvT EvA EvL EvU EvO)
theorem set_vIs (l : List Nat) (i x : Nat) : (vIs l).set i (vI x) = vIs (l.set i x) := List.map_set.symm
/-- lanes, and how many at each -/
structure StL (H0 H : Hp) (p tt ll : Addr) (lsv : List V) (L : Lanes) (ln : List Nat) : Prop where
  pot : PotAt H p
  ex : ExB p H0 H
  ht : H tt = some (.lst (vIs ln))
  hl : H ll = some (.lst lsv)
  pr : Paired (PairAt H) lsv L
  ft : H0 tt = none
  fl : H0 ll = none
  ntp : tt ≠ p
  nlp : ll ≠ p
  ntl : tt ≠ ll
section
variable {H0 H H' : Hp} {p tt ll : Addr} {lsv : List V} {L : Lanes} {ln : List Nat}
theorem StL.byPot (S : StL H0 H p tt ll lsv L ln) (e : ExB p H H') (hp : PotAt H' p) : StL H0 H' p tt ll lsv L ln :=
  { S with pot := hp, ex := S.ex.trans e, ht := e _ _ S.ht S.ntp, hl := e _ _ S.hl S.nlp, pr := paired_imp (fun _ _ z => z.exB S.pot e) S.pr }
theorem StL.byEx (S : StL H0 H p tt ll lsv L ln) (e : Ex H H') : StL H0 H' p tt ll lsv L ln := S.byPot (.of e) (S.pot.ex e)
theorem StL.set (S : StL H0 H p tt ll lsv L ln) {ln' : List Nat} : StL H0 (upd H tt (.lst (vIs ln'))) p tt ll lsv L ln' :=
  { S with pot := S.pot.put S.ntp, ex := S.ex.mut S.ft, ht := upd_same, hl := by rw [upd_ne S.ntl.symm]; exact S.hl, pr := paired_imp (fun _ _ z => z.put S.ht) S.pr }
theorem StL.lane (S : StL H0 H p tt ll lsv L ln) {t : Addr} {a b : Nat} (ht : H t = none) : StL H0 (upd (upd H t (.tup [vI a, vI b])) ll (.lst (lsv ++ [.ref t]))) p tt ll (lsv ++ [.ref t]) (L ++ [(a, b)]) ln := by
  have S1 := S.byEx (Ex.new (o := .tup [vI a, vI b]) ht)
  have n : t ≠ ll := fun e => by
    have := S.hl
    rw [← e, ht] at this
    cases this
  have ht1 : (upd H t (.tup [vI a, vI b])) t = some (.tup [vI a, vI b]) := upd_same
  generalize upd H t (.tup [vI a, vI b]) = H1 at S1 ht1
  refine { S1 with pot := S1.pot.put S1.nlp, ex := S1.ex.mut S1.fl, ht := by rw [upd_ne S1.ntl]; exact S1.ht, hl := upd_same, pr := papp (paired_imp (fun _ _ z => z.put S1.hl) S1.pr) ?_ }
  exact .cons ⟨t, rfl, by rw [upd_ne n]; exact ht1⟩ .nil
end
def spLanes2 : Sp := fun vs H Q _ => ∃ p m, vs = [.ref p, vI m] ∧ PotAt H p ∧ 1 ≤ m ∧ m ≤ 7 ∧ ∀ a L H', Done m L → LanesAt H' a L → H a = none → ExB p H H' → PotAt H' p → Q (.ref a) H'
theorem deg_nil (j : Nat) : deg [] j = 0 := by simp [deg, nb, out, inn]
theorem at_ln {f : Nat → Nat} {m j : Nat} (h : j < m) : (vIs ((List.range m).map f))[j]? = some (vI (f j)) := by
  unfold vIs
  rw [List.getElem?_map, List.getElem?_map, List.getElem?_range h]
  rfl
theorem set_ln {f : Nat → Nat} {m j x : Nat} (h : j < m) : ((List.range m).map f).set j x = (List.range m).map (fun i => if i = j then x else f i) := by
  refine List.ext_getElem (by simp) fun i h1 h2 => ?_
  rw [List.getElem_set, List.getElem_map, List.getElem_map, List.getElem_range]
  by_cases c : j = i
  · rw [if_pos c, if_pos c.symm]
  · rw [if_neg c, if_neg fun z => c z.symm]
theorem map_ln {f g : Nat → Nat} {m : Nat} (h : ∀ j, j < m → f j = g j) : (List.range m).map f = (List.range m).map g := List.map_congr_left fun j hj => h j (List.mem_range.mp hj)
end Pr
namespace K26
open PySem PySem.Spec PyProof.Rows L2 TM Pr Ep Nw
open Evl (Ex Ev EvT EvA EvL EvU EvO)
section
variable {P : Program} {w : World} {K : PySem.W.Frag} {mg : Str → Option Value} {base : Heap} {A : Adr}
theorem ok_l_lanes (T : Txt K mg A) : FnOk P w K mg base CX0 3 A.l_lanes A.l_lanes_fd ["_law_pot_here", "_law_many_here"] spLanes2 := by
  refine T.F_l_lanes.ok sc_l_lanes (fun vs H Q E h => ?_) (fun cdv A' outer s H vs Q E hr h => ?_)
  · obtain ⟨p, m, rfl, _⟩ := h
    rfl
  · obtain ⟨p, m, rfl, hp, hm1, hm7, k⟩ := h
    refine ⟨_, (pss_cons (ps_asg (pe_tup (pa_cons (pe_lst pa_nil) (pa_cons (pe_op op_rep (pe_lst (pa_cons pe_int pa_nil)) (pv 1)) pa_nil))) (show PG _ _ (gTup K 2 _) from pg_tup rfl (pgs_cons (pg_name (i := 2) sc_l_lanes.nd rfl (Or.inl rfl)) (pgs_cons (pg_name (i := 3) sc_l_lanes.nd rfl (Or.inr rfl)) pgs_nil)))) (pss_cons (ps_for PassesOwn.never rfl (pi_range2 (by rfl) T.n_range (pa_cons pe_int (pa_cons (pv 1) pa_nil))) (pg_name (i := 4) sc_l_lanes.nd rfl (Or.inl rfl)) (pss_cons (ps_setLc (i := 5) (own := [("_law_one", 9)]) rfl sc_l_lanes.nd rfl rfl (sw_true rfl rfl rfl (by decide +kernel)) (pi_range1 (by rfl) T.n_range (pa_cons (pv 4) pa_nil)) (blkOk_by (N := n_l_lanes) (sc := defScope s_l_lanes) (by decide +kernel)) (fun _ _ _ _ _ => (pg_name (i := 9) sc_l_lanes.nd rfl (Or.inl rfl))) (fun _ _ _ _ _ => (pts_one (pt_cmpR op_lt (show PE _ _ (tOp (rIxL K) _ _) from pe_ix ix_list (pv 3) (pv 9) (fun _ _ => rfl)) pe_int (nomark _)))) (fun _ _ _ _ _ => (pv 9))) (pss_cons (ps_set (i := 6) sc_l_lanes.nd rfl (Or.inl rfl) (pe_call (ok_l_pick T) (hr.mono (by decide)) (by rfl) T.m_l_pick T.F_l_pick.kp T.b_l_pick .nil pass0 (pa_cons (pv 0) (pa_cons (pv 5) pa_nil)))) (pss_cons (ps_expr (show PE _ _ (tBM K "list" rAppend _ _) from pe_bm PySem.F.plainAttrs_list PySem.F.slot_list_append PySem.F.type_list_append mt_append (pv 2) (pa_cons (pe_tup (pa_cons (pv 6) (pa_cons (pv 4) pa_nil))) pa_nil))) (pss_one (ps_asg (pe_tup (pa_cons pe_int (pa_cons (pe_op op_add (show PE _ _ (tOp (rIxL K) _ _) from pe_ix ix_list (pv 3) (pv 6) (fun _ _ => rfl)) pe_int) pa_nil))) (show PG _ _ (gTup K 2 _) from pg_tup rfl (pgs_cons (pg_sub (pv 3) (pv 4) set_list) (pgs_cons (pg_sub (pv 3) (pv 6) set_list) pgs_nil))))))))) (pss_cons (ps_set (i := 7) sc_l_lanes.nd rfl (Or.inl rfl) (pv 1)) (pss_cons (ps_for PassesOwn.never rfl (pi_range1 (by rfl) T.n_range (pa_cons (pv 1) pa_nil)) (pg_name (i := 4) sc_l_lanes.nd rfl (Or.inl rfl)) (pss_cons (ps_set (i := 8) sc_l_lanes.nd rfl (Or.inl rfl) (pe_call (ok_l_pick T) (hr.mono (by decide)) (by rfl) T.m_l_pick T.F_l_pick.kp T.b_l_pick .nil pass0 (pa_cons (pv 0) (pa_cons (pe_lst (pa_cons pe_int (pa_cons pe_int (pa_cons pe_int (pa_cons pe_int (pa_cons pe_int pa_nil)))))) pa_nil)))) (pss_one (ps_while PassesOwn.never (PW.pt (pw_or (pt_cmpR op_lt (show PE _ _ (tOp (rIxL K) _ _) from pe_ix ix_list (pv 3) (pv 4) (fun _ _ => rfl)) (pv 8) (nomark _)) (pw_or1 (pt_cmpR op_lt (show PE _ _ (tOp (rIxL K) _ _) from pe_ix ix_list (pv 3) (pv 4) (fun _ _ => rfl)) pe_int (nomark _))))) (pss_cons (ps_expr (show PE _ _ (tBM K "list" rAppend _ _) from pe_bm PySem.F.plainAttrs_list PySem.F.slot_list_append PySem.F.type_list_append mt_append (pv 2) (pa_cons (pe_tup (pa_cons (pv 4) (pa_cons (pv 7) pa_nil))) pa_nil))) (pss_one (ps_asg (pe_tup (pa_cons (pe_op op_add (pv 7) pe_int) (pa_cons (pe_op op_add (show PE _ _ (tOp (rIxL K) _ _) from pe_ix ix_list (pv 3) (pv 4) (fun _ _ => rfl)) pe_int) pa_nil))) (show PG _ _ (gTup K 2 _) from pg_tup rfl (pgs_cons (pg_name (i := 7) sc_l_lanes.nd rfl (Or.inl rfl)) (pgs_cons (pg_sub (pv 3) (pv 4) set_list) pgs_nil)))))))))) (pss_one (ps_ret (pv 2))))))), ?_⟩
    -- lanes, ties = [], [0] * many
    refine ⟨(by show 0 ≤ sizeLine; decide), fun ll hll => ⟨(by show 1 ≤ sizeLine; decide), fun z hz => ⟨_, rfl, z, _, _, rfl, rfl, upd_same, by omega, by omega, ?_, fun tt htt => ⟨(by show 2 ≤ sizeLine; decide), fun tu htu => ⟨tu, _, rfl, Evl.st_of upd_same, rfl, _, _, rfl, _, _, rfl, rfl, ?_⟩⟩⟩⟩⟩
    · show 1 * _ ≤ _
      rw [Nat.one_mul]
      exact szL (by omega)
    have rep : (List.replicate (m : Int).toNat [V.int 0]).flatten = vIs ((List.range m).map (deg [])) := by
      have : ∀ n : Nat, (List.replicate n [V.int 0]).flatten = vIs ((List.range n).map (deg [])) := by
        intro n
        induction n with
        | zero => rfl
        | succ n ih =>
          rw [List.replicate_succ', List.flatten_append, ih, List.range_succ, List.map_append]
          unfold vIs
          rw [List.map_append]
          simp [deg_nil]
      have e : ((m : Int)).toNat = m := by omega
      rw [e]
      exact this m
    rw [rep] at htu ⊢
    obtain ⟨pa, pb, hpp, _⟩ := id hp
    have lz : ll ≠ z := fun e => by rw [← e, upd_same] at hz; cases hz
    have tz : tt ≠ z := fun e => by rw [e, upd_same] at htt; cases htt
    rw [upd_ne tz] at htt
    have tl : tt ≠ ll := fun e => by rw [e, upd_same] at htt; cases htt
    rw [upd_ne tl] at htt
    have tp : tt ≠ p := (ne_of_none hpp htt).symm
    have lp : ll ≠ p := (ne_of_none hpp hll).symm
    have e0 : Ex H (upd (upd H ll (.lst [])) z (.lst [.int 0])) := (Ex.new hll).trans (Ex.new hz)
    have S0 : StL H (upd (upd (upd H ll (.lst [])) z (.lst [.int 0])) tt (.lst (vIs ((List.range m).map (deg []))))) p tt ll [] [] ((List.range m).map (deg [])) :=
      ⟨(hp.ex e0).put tp, ExB.mut (.of e0) htt, upd_same, by rw [upd_ne tl.symm, upd_ne lz, upd_same], .nil, htt, hll, tp, lp, tl⟩
    have S1 := S0.byEx (Ex.new (o := .tup [.ref ll, .ref tt]) htu)
    generalize upd (upd (upd (upd H ll (.lst [])) z (.lst [.int 0])) tt (.lst (vIs ((List.range m).map (deg []))))) tu (.tup [.ref ll, .ref tt]) = H1 at S1
    clear S0 htu e0
    -- the yards
    refine ⟨_, rfl, 1, _, rfl, ⟨by omega, by omega, by omega, by omega⟩, ?_⟩
    refine for_range (lo := 1) (n := ((m : Int) - 1).toNat) (fun i σ' H' => ∃ lsv L y4 y5 y6, σ' = [some (.ref p), some (vI m), some (.ref ll), some (.ref tt), y4, y5, y6, none, none, none] ∧ StL H H' p tt ll lsv L ((List.range m).map (deg L)) ∧ Drawn (i + 1) L ∧ (∀ j, deg L j ≤ 4) ∧ deg L i ≤ 1)
      ⟨[], [], none, none, none, rfl, S1, Drawn.start, fun j => by rw [deg_nil]; omega, by rw [deg_nil]; omega⟩ (fun i σ' H3 hi h => ?_) (fun σ' H3 h => ?_)
    · obtain ⟨lsv, L, y4, y5, y6, rfl, S, D, h4, h1⟩ := h
      have him : i + 1 < m := by omega
      have eL := D.len
      have ell : lsv.length = L.length := PySem.Paired.length S.pr
      have ey : V.int (1 + (i : Int)) = vI (i + 1) := by show V.int _ = V.int _; congr 1; omega
      have row : ∀ {σ : L2.St} {H4 : Hp} {j : Nat}, σ[3]? = some (some (.ref tt)) → Ex H3 H4 → ∀ {tk : TE}, Ev tk σ H4 (vI j) → j < m → Ev (tOp (rIxL K) (tVar 3) tk) σ H4 (vI (deg L j)) := fun {σ H4 j} hs e {tk} hk hj => Evl.ev_op (Evl.ev_var hs) hk (Evl.rv_ixL (Evl.sq_of (e _ _ S.ht)) (at_of rfl (at_ln hj)))
      show tSeq (tAsg (tLc _ _ _ _ _) (gName 5)) _ _ ([some (.ref p), some (vI m), some (.ref ll), some (.ref tt), some (V.int (1 + (i : Int))), y5, y6, none, none, none]) H3
      rw [ey]
      refine p_asg (lcV (n := i + 1) (src_rng1 (n := i + 1) (Evl.ea_cons (Evl.ev_var rfl) Evl.ea_nil) (by omega)) (by omega) (fun _ x => [some (.ref p), some (vI m), some (.ref ll), some (.ref tt), some (vI (i + 1)), y5, y6, none, none, some x]) (fun _ _ => rfl) (fun _ _ _ _ _ _ _ q => q) (fun j => decide (deg L j < 4)) (fun j => vI j) (fun j x H4 e4 hj hx => ?_) (fun j x H4 e4 hj hx _ => ?_)) fun v H4 e4 hv => ?_
      · cases hx
        refine Evl.et_is (Evl.et_test (Evl.ev_op (row rfl e4 (Evl.ev_var rfl) (by omega)) Evl.ev_c rv_I0P)) ?_
        exact decide_eq_decide.mpr (by omega)
      · cases hx
        exact Evl.ev_var rfl
      obtain ⟨sa, rfl, hsa0, hsa⟩ := hv
      have S4 := S.byEx e4
      have sap : sa ≠ p := fun e => by
        obtain ⟨a, b, hq, _⟩ := S.pot
        rw [e, hq] at hsa0
        cases hsa0
      refine ⟨_, rfl, _, rfl, p, sa, _, rfl, S4.pot, hsa, sap, ?_, ?_, fun n x H5 hx hp5 e5 => ?_⟩
      · rw [List.length_map]
        refine List.length_pos_of_mem (List.mem_filter.mpr ⟨List.mem_range.mpr (Nat.lt_succ_self i), ?_⟩)
        exact decide_eq_true (by omega)
      · rw [List.length_map]
        have := List.length_filter_le (fun j => decide (deg L j < 4)) (List.range (i + 1))
        rw [List.length_range] at this
        omega
      have S5 := S4.byPot e5 hp5
      obtain ⟨o, ho, rfl⟩ : ∃ o, o ∈ (List.range (i + 1)).filter (fun j => decide (deg L j < 4)) ∧ x = vI o := by
        obtain ⟨o, ho, e⟩ := List.mem_map.mp (List.mem_of_getElem? hx)
        exact ⟨o, ho, e.symm⟩
      obtain ⟨ho1, ho2⟩ := List.mem_filter.mp ho
      have ho1 := List.mem_range.mp ho1
      have ho2 : deg L o < 4 := of_decide_eq_true ho2
      -- lanes.append((other, yard))
      refine ⟨_, rfl, .inl ⟨rfl, _, .inl (.inl S5.hl)⟩, _, rfl, _, rfl, (by show 2 ≤ sizeLine; decide), fun t ht => ?_⟩
      have nlt : ll ≠ t := ne_of_none S5.hl ht
      refine ⟨ll, _, _, rfl, rfl, by rw [upd_ne nlt]; exact S5.hl, szN (by omega), ?_⟩
      have S8 := S5.lane (a := o) (b := i + 1) ht
      generalize upd (upd H5 t (.tup [vI o, vI (i + 1)])) ll (.lst (lsv ++ [.ref t])) = H8 at S8
      -- ties
      refine ⟨_, rfl, _, rfl, tt, _, _, vI (deg L o), rfl, rfl, Evl.sq_of S8.ht, at_of rfl (at_ln (by omega)), _, _, rfl, rfl, (by show 2 ≤ sizeLine; decide), fun u hu => ?_⟩
      have S9 := S8.byEx (Ex.new (o := .tup [.int 1, .int ((deg L o : Int) + 1)]) hu)
      have uu : (upd H8 u (.tup [.int 1, .int ((deg L o : Int) + 1)])) u = some (.tup [.int 1, .int ((deg L o : Int) + 1)]) := upd_same
      generalize upd H8 u (.tup [.int 1, .int ((deg L o : Int) + 1)]) = H9 at S9 uu
      refine ⟨u, _, rfl, Evl.st_of uu, rfl, _, _, rfl, _, rfl, _, rfl, tt, _, ((i + 1 : Nat) : Int), i + 1, rfl, rfl, S9.ht, Evl.ixN_nat (by rw [List.length_map, List.length_map, List.length_range]; exact him), ?_⟩
      have es1 : (vIs ((List.range m).map (deg L))).set (i + 1) (.int 1) = vIs (((List.range m).map (deg L)).set (i + 1) 1) := set_vIs _ _ 1
      rw [es1]
      have Sa := S9.set (ln' := ((List.range m).map (deg L)).set (i + 1) 1)
      refine ⟨_, _, rfl, _, rfl, _, rfl, tt, _, (o : Int), o, rfl, rfl, Sa.ht, Evl.ixN_nat (by rw [List.length_map, List.length_set, List.length_map, List.length_range]; omega), rfl, ?_⟩
      have es2 : (vIs (((List.range m).map (deg L)).set (i + 1) 1)).set o (.int ((deg L o : Int) + 1)) = vIs ((((List.range m).map (deg L)).set (i + 1) 1).set o (deg L o + 1)) := set_vIs _ _ (deg L o + 1)
      rw [es2]
      have Sb := Sa.set (ln' := (((List.range m).map (deg L)).set (i + 1) 1).set o (deg L o + 1))
      have dl : ∀ j, deg (L ++ [(o, i + 1)]) j = deg L j + ((if o = j then 1 else 0) + (if i + 1 = j then 1 else 0)) := fun j => deg_snoc L o (i + 1) j
      have dz : deg L (i + 1) = 0 := D.zero (Nat.le_refl _)
      have eln : (((List.range m).map (deg L)).set (i + 1) 1).set o (deg L o + 1) = (List.range m).map (deg (L ++ [(o, i + 1)])) := by
        rw [set_ln him, set_ln (by omega)]
        refine map_ln fun j hj => ?_
        rw [dl]
        by_cases c : j = o
        · subst c
          rw [if_pos rfl, if_pos rfl, if_neg (by omega)]
        · have c' : ¬ o = j := fun z => c z.symm
          rw [if_neg c, if_neg c']
          by_cases c2 : j = i + 1
          · subst c2
            rw [if_pos rfl, if_pos rfl, dz]
          · have c2' : ¬ i + 1 = j := fun z => c2 z.symm
            rw [if_neg c2, if_neg c2']
            omega
      rw [eln] at Sb ⊢
      refine ⟨_, L ++ [(o, i + 1)], _, _, _, rfl, Sb, D.more ho1, fun j => ?_, ?_⟩
      · rw [dl]
        have := h4 j
        by_cases c : o = j
        · subst c
          rw [if_pos rfl, if_neg (by omega)]
          omega
        · rw [if_neg c]
          by_cases c2 : i + 1 = j
          · subst c2
            rw [if_pos rfl, dz]
            omega
          · rw [if_neg c2]
            omega
      · rw [dl, dz, if_pos rfl, if_neg (by omega)]
        omega
    · obtain ⟨lsv, L, y4, y5, y6, rfl, S, D, h4, h1⟩ := h
      have em : ((m : Int) - 1).toNat + 1 = m := by omega
      rw [em] at D
      have eL := D.len
      refine ⟨_, rfl, ?_⟩
      dsimp only
      show tSeq (tFor _ _ _) _ _ ([some (.ref p), some (vI m), some (.ref ll), some (.ref tt), y4, y5, y6, some (vI m), none, none]) H3
      refine Evl.q_forR1 (n := (m : Int)) (Evl.ea_cons (Evl.ev_var rfl) Evl.ea_nil) ⟨by omega, by omega⟩ (fun i σ' H' => ∃ lsv L2 y4 y8, σ' = [some (.ref p), some (vI m), some (.ref ll), some (.ref tt), y4, y5, y6, some (vI (L2.length + 1)), y8, none] ∧ StL H H' p tt ll lsv L2 ((List.range m).map (deg L2)) ∧ Drawn (L2.length + 1) L2 ∧ (∀ j, j < i → 2 ≤ deg L2 j) ∧ (∀ j, j < m → deg L2 j ≤ 4) ∧ (∀ j, m ≤ j → deg L2 j ≤ 1) ∧ m ≤ L2.length + 1 ∧ L2.length + 1 ≤ m + 4 * i)
        (fun H4 e4 => ⟨lsv, L, y4, none, by rw [← eL], S.byEx e4, eL ▸ D, fun j hj => absurd hj (by omega), fun j _ => h4 j, fun j hj => by rw [D.zero hj]; omega, by omega, by omega⟩) (fun i σ' H4 hi h => ?_) (fun σ' H4 h => ?_)
      · obtain ⟨lsv, L, y4, y8, rfl, S, D, g1, g2, g3, g4, g5⟩ := h
        have him : i < m := by omega
        -- wanted
        refine ⟨_, rfl, (by show 5 ≤ sizeLine; decide), fun wa hwa => ?_⟩
        have S5 := S.byEx (Ex.new (o := .lst [.int 2, .int 2, .int 3, .int 3, .int 4]) hwa)
        have nwp : wa ≠ p := fun e => by
          obtain ⟨_, _, z, _⟩ := S.pot
          rw [e, z] at hwa
          cases hwa
        refine ⟨p, wa, _, rfl, S5.pot, upd_same, nwp, by decide, by decide, fun n x H6 hx hp6 e6 => ?_⟩
        have S6 := S5.byPot e6 hp6
        obtain ⟨w, rfl, w1, w2⟩ : ∃ w : Nat, x = vI w ∧ 2 ≤ w ∧ w ≤ 4 := by
          match n, hx with
          | 0, hx => exact ⟨2, (Option.some.inj hx).symm, by decide, by decide⟩
          | 1, hx => exact ⟨2, (Option.some.inj hx).symm, by decide, by decide⟩
          | 2, hx => exact ⟨3, (Option.some.inj hx).symm, by decide, by decide⟩
          | 3, hx => exact ⟨3, (Option.some.inj hx).symm, by decide, by decide⟩
          | 4, hx => exact ⟨4, (Option.some.inj hx).symm, by decide, by decide⟩
        clear S S5 hx hwa
        dsimp only
        show tWhile _ _ _ ([some (.ref p), some (vI m), some (.ref ll), some (.ref tt), some (vI i), y5, y6, some (vI (L.length + 1)), some (vI w), none]) H6
        refine Evl.s_while (fun n σ' H' => ∃ lsv L2, σ' = [some (.ref p), some (vI m), some (.ref ll), some (.ref tt), some (vI i), y5, y6, some (vI (L2.length + 1)), some (vI w), none] ∧ StL H H' p tt ll lsv L2 ((List.range m).map (deg L2)) ∧ Drawn (L2.length + 1) L2 ∧ (∀ j, j < i → 2 ≤ deg L2 j) ∧ (∀ j, j < m → deg L2 j ≤ 4) ∧ (∀ j, m ≤ j → deg L2 j ≤ 1) ∧ m ≤ L2.length + 1 ∧ L2.length + n ≤ L.length + 4 ∧ n = 4 - deg L2 i) (4 - deg L i)
          ⟨lsv, L, rfl, S6, D, g1, g2, g3, g4, by omega, rfl⟩ (fun n σ' H7 h => ?_)
        obtain ⟨lsv, L2, rfl, S, D, q1, q2, q3, q4, q5, rfl⟩ := h
        have hi4 := q2 i him
        have row : ∀ {H8 : Hp}, Ex H7 H8 → Ev (tOp (rIxL K) (tVar 3) (tVar 4)) [some (.ref p), some (vI m), some (.ref ll), some (.ref tt), some (vI i), y5, y6, some (vI (L2.length + 1)), some (vI w), none] H8 (vI (deg L2 i)) := fun e => Evl.ev_op (Evl.ev_var rfl) (Evl.ev_var rfl) (Evl.rv_ixL (Evl.sq_of (e _ _ S.ht)) (at_of rfl (at_ln him)))
        refine ⟨decide (deg L2 i < w) || decide (deg L2 i < 2), Evl.et_or (Evl.et_is (Evl.et_test (Evl.ev_op (row (Ex.refl _)) (Evl.ev_var rfl) rv_I0P)) (decide_eq_decide.mpr (by omega))) (fun _ => Evl.et_is (Evl.et_test (Evl.ev_op (row (Ex.refl _)) Evl.ev_c rv_I0P)) (decide_eq_decide.mpr (by omega))), fun hb H8 e8 => ?_, fun hb H8 e8 => ?_⟩
        · have hlt : deg L2 i < 4 := by
            rw [Bool.or_eq_true, decide_eq_true_eq, decide_eq_true_eq] at hb
            omega
          have S8 := S.byEx e8
          have ell : lsv.length = L2.length := PySem.Paired.length S.pr
          refine ⟨fun σ2 H9 => ∃ lsv L3, σ2 = [some (.ref p), some (vI m), some (.ref ll), some (.ref tt), some (vI i), y5, y6, some (vI (L3.length + 1)), some (vI w), none] ∧ StL H H9 p tt ll lsv L3 ((List.range m).map (deg L3)) ∧ Drawn (L3.length + 1) L3 ∧ (∀ j, j < i → 2 ≤ deg L3 j) ∧ (∀ j, j < m → deg L3 j ≤ 4) ∧ (∀ j, m ≤ j → deg L3 j ≤ 1) ∧ m ≤ L3.length + 1 ∧ L3.length + (4 - deg L3 i) ≤ L.length + 4 ∧ 4 - deg L3 i < 4 - deg L2 i, fun σ2 H9 ⟨lsv, L3, a1, a2, a3, a4, a5, a6, a7, a8, a9⟩ => ⟨4 - deg L3 i, a9, lsv, L3, a1, a2, a3, a4, a5, a6, a7, a8, rfl⟩, ?_⟩
          refine ⟨_, rfl, .inl ⟨rfl, _, .inl (.inl S8.hl)⟩, _, rfl, _, rfl, (by show 2 ≤ sizeLine; decide), fun t ht => ?_⟩
          have nlt : ll ≠ t := ne_of_none S8.hl ht
          refine ⟨ll, _, _, rfl, rfl, by rw [upd_ne nlt]; exact S8.hl, szN (by omega), ?_⟩
          have S9 := S8.lane (a := i) (b := L2.length + 1) ht
          generalize upd (upd H8 t (.tup [vI i, vI (L2.length + 1)])) ll (.lst (lsv ++ [.ref t])) = H9 at S9
          refine ⟨_, rfl, _, _, rfl, rfl, _, rfl, _, rfl, tt, _, _, vI (deg L2 i), rfl, rfl, Evl.sq_of S9.ht, at_of rfl (at_ln him), _, _, rfl, rfl, (by show 2 ≤ sizeLine; decide), fun u hu => ?_⟩
          have Sa := S9.byEx (Ex.new (o := .tup [.int (((L2.length + 1 : Nat) : Int) + 1), .int ((deg L2 i : Int) + 1)]) hu)
          have uu : (upd H9 u (.tup [.int (((L2.length + 1 : Nat) : Int) + 1), .int ((deg L2 i : Int) + 1)])) u = some (.tup [.int (((L2.length + 1 : Nat) : Int) + 1), .int ((deg L2 i : Int) + 1)]) := upd_same
          generalize upd H9 u (.tup [.int (((L2.length + 1 : Nat) : Int) + 1), .int ((deg L2 i : Int) + 1)]) = Ha at Sa uu
          refine ⟨u, _, rfl, Evl.st_of uu, rfl, _, _, rfl, _, _, rfl, _, rfl, _, rfl, tt, _, (i : Int), i, rfl, rfl, Sa.ht, Evl.ixN_nat (by rw [List.length_map, List.length_map, List.length_range]; exact him), rfl, ?_⟩
          have es : (vIs ((List.range m).map (deg L2))).set i (.int ((deg L2 i : Int) + 1)) = vIs (((List.range m).map (deg L2)).set i (deg L2 i + 1)) := set_vIs _ _ (deg L2 i + 1)
          rw [es]
          have Sb := Sa.set (ln' := ((List.range m).map (deg L2)).set i (deg L2 i + 1))
          have dl : ∀ j, deg (L2 ++ [(i, L2.length + 1)]) j = deg L2 j + ((if i = j then 1 else 0) + (if L2.length + 1 = j then 1 else 0)) := fun j => deg_snoc L2 i (L2.length + 1) j
          have dz : deg L2 (L2.length + 1) = 0 := D.zero (Nat.le_refl _)
          have eln : ((List.range m).map (deg L2)).set i (deg L2 i + 1) = (List.range m).map (deg (L2 ++ [(i, L2.length + 1)])) := by
            rw [set_ln him]
            refine map_ln fun j hj => ?_
            rw [dl]
            have n2 : ¬ L2.length + 1 = j := by omega
            by_cases c : j = i
            · subst c
              rw [if_pos rfl, if_pos rfl, if_neg n2]
            · have c' : ¬ i = j := fun z => c z.symm
              rw [if_neg c, if_neg c', if_neg n2]
              omega
          rw [eln] at Sb ⊢
          have el3 : (L2 ++ [(i, L2.length + 1)]).length = L2.length + 1 := by rw [List.length_append]; rfl
          have di : deg (L2 ++ [(i, L2.length + 1)]) i = deg L2 i + 1 := by
            rw [dl, if_pos rfl, if_neg (by omega)]
          refine ⟨_, L2 ++ [(i, L2.length + 1)], by rw [el3]; rfl, Sb, by rw [el3]; exact D.more (by omega), fun j hj => ?_, fun j hj => ?_, fun j hj => ?_, by omega, by rw [di]; omega, by rw [di]; omega⟩
          · rw [dl]
            have := q1 j hj
            omega
          · rw [dl]
            have := q2 j hj
            have n2 : ¬ L2.length + 1 = j := by omega
            rw [if_neg n2]
            by_cases c : i = j
            · subst c
              rw [if_pos rfl]
              omega
            · rw [if_neg c]
              omega
          · rw [dl]
            have := q3 j hj
            have c : ¬ i = j := by omega
            rw [if_neg c]
            by_cases c2 : L2.length + 1 = j
            · rw [if_pos c2, ← c2, dz]
              omega
            · rw [if_neg c2]
              omega
        · have S8 := S.byEx e8
          have h2 : 2 ≤ deg L2 i := by
            rw [Bool.or_eq_false_iff, decide_eq_false_iff_not, decide_eq_false_iff_not] at hb
            omega
          exact ⟨lsv, L2, _, _, rfl, S8, D, fun j hj => by
            by_cases c : j = i
            · rw [c]
              exact h2
            · exact q1 j (by omega), q2, q3, q4, by omega⟩
      · obtain ⟨lsv, L, y4, y8, rfl, S, D, g1, g2, g3, g4, g5⟩ := h
        exact ⟨_, rfl, k ll L H4 ⟨D, fun j hj => ⟨g1 j (by omega), g2 j hj⟩, g3, hm1, hm7, g4, by omega⟩ ⟨lsv, S.hl, S.pr⟩ S.fl S.ex S.pot⟩
end
end K26

set_option Elab.async false
set_option linter.all false
set_option maxRecDepth 100000
set_option maxHeartbeats 4000000
namespace Pr
open PySem PySem.Spec PyProof.Rows L2 TM Ep Nw
open Evl (Ex Ev EvT EvA EvL EvU EvO)
theorem vIs_of : ∀ {ys : List V} {ps : List Nat}, Paired (fun v n => v = vI n) ys ps → ys = vIs ps
  | _, _, .nil => rfl
  | _, _, .cons r t => by rw [r, vIs_of t]; rfl
theorem perm_vIs {ys : List V} {l : List Nat} (h : ys.Perm (vIs l)) : ∃ ps, ys = vIs ps ∧ ps.Perm l := by
  obtain ⟨m, a, b⟩ := perm_paired (R := fun v n => v = vI n) h (paired_N (H := fun _ => none) l)
  exact ⟨m, vIs_of b, a⟩
def spRenum : Sp := fun vs H Q _ => ∃ p a L m, vs = [.ref p, .ref a] ∧ PotAt H p ∧ LanesAt H a L ∧ a ≠ p ∧ Done m L ∧ ∀ c M vt H', Good vt M → LanesAt H' c M → H c = none → ExB p H H' → PotAt H' p → (∀ d, (∀ j, deg L j ≤ d) → ∀ v, (adj M v).length ≤ d) → Q (.ref c) H'
def spPairsL : Sp := fun vs H Q _ => ∃ B r N, Ex B H ∧ vs = [.ref r] ∧ NAt B r N ∧ N.length ≤ 100 ∧ ∀ v H', Ex H H' → NewLst PrR B (pairsN N) v H H' → Q v H'
/-- the base goes along -/
theorem NewLst_all {β : Type} {S : Rep β} (mo : Mono S) {B H1 H2 : Hp} {l : List β} {v : V} (e : Ex B H2) (h : NewLst S B l v H1 H2) : ∃ p G, v = .ref p ∧ H1 p = none ∧ Mk B H1 H2 G ∧ Ex B G ∧ LstOf S G v l := by
  obtain ⟨p, vs, Hn, r, f, m, k, hp⟩ := h
  have m0 : Mk B H1 H2 B := fun b o z => ⟨e _ _ z, .inl z⟩
  obtain ⟨mj, ja, jb⟩ := m.join m0
  exact ⟨p, _, r, f, mj, jb, p, vs, r, ja _ _ k, mo.paired ja hp⟩
end Pr
namespace K26
open PySem PySem.Spec PyProof.Rows L2 TM Pr Ep Nw
open Evl (Ex Ev EvT EvA EvL EvU EvO)
section
variable {P : Program} {w : World} {K : PySem.W.Frag} {mg : Str → Option Value} {base : Heap} {A : Adr}
theorem ok_l_renumbered (T : Txt K mg A) : FnOk P w K mg base CX0 3 A.l_renumbered A.l_renumbered_fd ["_law_pot_here", "_law_lanes_here"] spRenum := by
  refine T.F_l_renumbered.ok sc_l_renumbered (fun vs H Q E h => ?_) (fun cdv A' outer s H vs Q E hr h => ?_)
  · obtain ⟨p, a, L, m, rfl, _⟩ := h
    rfl
  · obtain ⟨p, a, L, m, rfl, hp, hL, nap, DD, k⟩ := h
    refine ⟨_, (pss_cons (ps_set (i := 2) sc_l_renumbered.nd rfl (Or.inr rfl) (pe_call (ok_l_mixed T) (hr.mono (by decide)) (by rfl) T.m_l_mixed T.F_l_mixed.kp T.b_l_mixed .nil pass0 (pa_cons (pv 0) (pa_cons (pe_listRg rfl (by rfl) T.n_list (prg_1 (by rfl) T.n_range (pe_op op_add (show PE _ _ (tCB (rLenA K) _) from (pe_callB (id := "len") call_len (by rfl) T.n_len (by decide +kernel) (pa_cons (pv 1) pa_nil))) pe_int))) pa_nil)))) (pss_one (ps_ret (pe_lc (own := [("_law_near", 3), ("_law_far", 4)]) rfl sc_l_renumbered.nd (show PI _ _ _ (iList K _) from pi_list (pv 1)) (blkOk_by (N := n_l_renumbered) (sc := defScope s_l_renumbered) (by decide +kernel)) (fun _ _ _ _ _ => (show PG _ _ (gTup K 2 _) from pg_tup rfl (pgs_cons (pg_name (i := 3) sc_l_renumbered.nd rfl (Or.inl rfl)) (pgs_cons (pg_name (i := 4) sc_l_renumbered.nd rfl (Or.inl rfl)) pgs_nil)))) (fun _ _ _ _ _ => pts_nil) (fun _ _ _ _ _ => (pe_tup (pa_cons (show PE _ _ (tOp (rIxL K) _ _) from pe_ix ix_list (pv 2) (pv 3) (fun _ _ => rfl)) (pa_cons (show PE _ _ (tOp (rIxL K) _ _) from pe_ix ix_list (pv 2) (pv 4) (fun _ _ => rfl)) pa_nil)))))))), ?_⟩
    have hsm := DD.small
    obtain ⟨ls, ha, hpl⟩ := id hL
    have hll : ls.length = L.length := PySem.Paired.length hpl
    refine ⟨_, rfl, ?_⟩
    refine (ev_range (n := L.length + 1) (Evl.ev_is (Evl.ev_op (ev_lenL (Evl.ev_var rfl) (Evl.sq_of ha)) Evl.ev_c rv_I0P) (by rw [hll]; rfl)) (by omega)).run fun v H1 e1 h => ?_
    obtain ⟨ra, rfl, fra, hra⟩ := h
    have nrp : ra ≠ p := fun e => by
      obtain ⟨_, _, z, _⟩ := hp
      rw [e, z] at fra
      cases fra
    refine ⟨p, ra, _, rfl, hp.ex e1, hra, nrp, by rw [List.length_map, List.length_range]; omega, fun c ys H2 pm hc fc e2 hp2 => ?_⟩
    obtain ⟨ps, rfl, pps⟩ := perm_vIs pm
    have M : Mixed (L.length + 1) ps := ⟨by rw [pps.length_eq, List.length_range], pps⟩
    obtain ⟨vt, G⟩ := DD.good M
    have x2 : ExB p H H2 := (ExB.of e1).trans e2
    have hL2 := hL.exB x2 hp nap
    obtain ⟨ls2, ha2, hpl2⟩ := id hL2
    have hql := M.len
    dsimp only
    show tRet _ _ ([some (.ref p), some (.ref a), some (.ref c), none, none]) H2
    refine p_ret (P := fun v Ha Hb => ∃ a, v = .ref a ∧ Ha a = none ∧ LanesAt Hb a (ren (fun i => ps.getD i 0) L)) (EvP.imp (lcT (F := fun x => (ps.getD x.1 0, ps.getD x.2 0)) (src_list (K := K) (Evl.ev_var rfl) (Evl.sq_of ha2)) hpl2 (by omega) (fun x => [some (.ref p), some (.ref a), some (.ref c), some (vI x.1), some (vI x.2)]) (fun _ => rfl) (fun x t H8 Q' _ h k => (by exact go_tup (i := 3) (j := 4) h k)) (fun x H8 hx e8 => ?_)) (fun v Ha Hb ea eb h => h)) fun v H3 e3 h => ?_
    · have hb := Grow.ends DD.dr (.inl (List.mem_reverse.mpr hx))
      have hb1 : x.1 < ps.length := by have := hb.1; simp at this; omega
      have hb2 : x.2 < ps.length := by have := hb.2; simp at this; omega
      have it : ∀ {σ : _root_.L2.St} {j i : Nat}, σ[2]? = some (some (.ref c)) → σ[j]? = some (some (vI i)) → i < ps.length → Ev (tOp (rIxL K) (tVar 2) (tVar j)) σ H8 (vI (ps.getD i 0)) := fun h1 h2 h3 => Evl.ev_op (Evl.ev_var h1) (Evl.ev_var h2) (Evl.rv_ixL (Evl.sq_of (e8 _ _ hc)) (at_of rfl (vIs_at h3)))
      exact evp_tup (vs := [vI (ps.getD x.1 0), vI (ps.getD x.2 0)]) (Evl.ea_cons (it rfl rfl hb1) (Evl.ea_cons (it rfl rfl hb2) Evl.ea_nil)) (by show 2 ≤ 100000; decide)
    · obtain ⟨d, rfl, fd, hM⟩ := h
      have ndp : d ≠ p := fun e => by
        obtain ⟨_, _, z, _⟩ := hp2
        rw [e, z] at fd
        cases fd
      exact k d _ vt H3 G hM (x2.free fd ndp) (x2.trans (.of e3)) (hp2.ex e3) fun dd hd v => DD.degs M hd v
theorem ok_l_beside (T : Txt K mg A) : FnOk P w K mg base CX0 1 A.l_beside A.l_beside_fd ["_law_lanes_here", "_law_place"] spBeside := by
  refine T.F_l_beside.ok sc_l_beside (fun vs H Q E h => ?_) (fun cdv A' outer s H vs Q E hr h => ?_)
  · obtain ⟨L, a, i, rfl, _⟩ := h
    rfl
  · obtain ⟨L, a, i, rfl, hL, hsm, k⟩ := h
    refine ⟨_, (pss_one (ps_ret (show PE _ _ (tCB (rSortedI K) _) from (pe_callB (id := "sorted") cr_sortedI (by rfl) T.n_sorted (by decide +kernel) (pa_cons (pe_op op_cat (pe_lc (own := [("_law_near", 2), ("_law_far", 3)]) rfl sc_l_beside.nd (show PI _ _ _ (iList K _) from pi_list (pv 0)) (blkOk_by (N := n_l_beside) (sc := defScope s_l_beside) (by decide +kernel)) (fun _ _ _ _ _ => (show PG _ _ (gTup K 2 _) from pg_tup rfl (pgs_cons (pg_name (i := 2) sc_l_beside.nd rfl (Or.inl rfl)) (pgs_cons (pg_name (i := 3) sc_l_beside.nd rfl (Or.inl rfl)) pgs_nil)))) (fun _ _ _ _ _ => (pts_one (pt_cmpR op_eq (pv 2) (pv 1) (nomark _)))) (fun _ _ _ _ _ => (pv 3))) (pe_lc (own := [("_law_near", 2), ("_law_far", 3)]) rfl sc_l_beside.nd (show PI _ _ _ (iList K _) from pi_list (pv 0)) (blkOk_by (N := n_l_beside) (sc := defScope s_l_beside) (by decide +kernel)) (fun _ _ _ _ _ => (show PG _ _ (gTup K 2 _) from pg_tup rfl (pgs_cons (pg_name (i := 2) sc_l_beside.nd rfl (Or.inl rfl)) (pgs_cons (pg_name (i := 3) sc_l_beside.nd rfl (Or.inl rfl)) pgs_nil)))) (fun _ _ _ _ _ => (pts_one (pt_cmpR op_eq (pv 3) (pv 1) (nomark _)))) (fun _ _ _ _ _ => (pv 2)))) pa_nil))))), ?_⟩
    obtain ⟨ls, ha, hp⟩ := id hL
    have hll : ls.length = L.length := PySem.Paired.length hp
    refine p_ret (P := NewL (vIs (adj L i))) (ev_sortN (K := K) (l := nb L i) ?_) fun v H2 e2 h => ?_
    · intro H1 e1 Q' q
      refine (lcL (src_list (K := K) (Evl.ev_var rfl) (Evl.sq_of (e1 _ _ ha))) (paired_imp (fun _ _ z => z.ex e1) hp) (by omega) (fun q => [some (.ref a), some (vI i), some (vI q.1), some (vI q.2)]) (fun _ => rfl) (fun q t H1 Q' _ h k => (by exact go_tup (i := 2) (j := 3) h k)) (fun q => decide (q.1 = i)) (fun q => vI q.2) (fun q H1 _ e => Evl.et_is (Evl.et_test (Evl.ev_op (Evl.ev_var rfl) (Evl.ev_var rfl) (Evl.rv_eq rfl))) eqN) (fun q H1 _ e _ => Evl.ev_var rfl)).run fun v H2 e2 h => ?_
      obtain ⟨o, rfl, ho, hout⟩ := h
      have x2 := e1.trans e2
      refine (lcL (src_list (K := K) (Evl.ev_var rfl) (Evl.sq_of (x2 _ _ ha))) (paired_imp (fun _ _ z => z.ex x2) hp) (by omega) (fun q => [some (.ref a), some (vI i), some (vI q.1), some (vI q.2)]) (fun _ => rfl) (fun q t H1 Q' _ h k => (by exact go_tup (i := 2) (j := 3) h k)) (fun q => decide (q.2 = i)) (fun q => vI q.1) (fun q H1 _ e => Evl.et_is (Evl.et_test (Evl.ev_op (Evl.ev_var rfl) (Evl.ev_var rfl) (Evl.rv_eq rfl))) eqN) (fun q H1 _ e _ => Evl.ev_var rfl)).run fun v H3 e3 h => ?_
      obtain ⟨u, rfl, hu, hin⟩ := h
      have l1 : ((L.filter fun q => decide (q.1 = i)).map fun q => vI q.2).length ≤ L.length := by rw [List.length_map]; exact List.length_filter_le _ _
      have l2 : ((L.filter fun q => decide (q.2 = i)).map fun q => vI q.1).length ≤ L.length := by rw [List.length_map]; exact List.length_filter_le _ _
      refine ⟨o, u, _, _, rfl, rfl, e3 _ _ hout, hin, szL (by omega), fun p hp => q _ _ ((e2.trans e3).trans (Ex.new hp)) ⟨p, rfl, ?_⟩⟩
      rw [upd_same]
      unfold nb out inn vIs
      rw [List.map_append, List.map_map, List.map_map]
      rfl
    · obtain ⟨p, rfl, hp, h⟩ := h
      exact k p H2 e2 hp h
theorem ok_l_yards (T : Txt K mg A) : FnOk P w K mg base CX0 2 A.l_yards A.l_yards_fd ["_law_lanes_here"] spYardsOf := by
  refine T.F_l_yards.ok sc_l_yards (fun vs H Q E h => ?_) (fun cdv A' outer s H vs Q E hr h => ?_)
  · obtain ⟨L, a, rfl, _⟩ := h
    rfl
  · obtain ⟨L, a, rfl, hL, hsm, k⟩ := h
    refine ⟨_, (pss_one (ps_ret (pe_lc (own := [("_law_place", 1)]) rfl sc_l_yards.nd (pi_range1 (by rfl) T.n_range (pa_cons (pe_op op_add (show PE _ _ (tCB (rLenA K) _) from (pe_callB (id := "len") call_len (by rfl) T.n_len (by decide +kernel) (pa_cons (pv 0) pa_nil))) pe_int) pa_nil)) (blkOk_by (N := n_l_yards) (sc := defScope s_l_yards) (by decide +kernel)) (fun _ _ _ _ _ => (pg_name (i := 1) sc_l_yards.nd rfl (Or.inl rfl))) (fun _ _ _ _ _ => (pts_one (pt_cmpR op_gt (show PE _ _ (tCB (rLenA K) _) from (pe_callB (id := "len") call_len (by rfl) T.n_len (by decide +kernel) (pa_cons (pe_call (ok_l_beside T) (hr.mono (by decide)) (by rfl) T.m_l_beside T.F_l_beside.kp T.b_l_beside .nil pass0 (pa_cons (pv 0) (pa_cons (pv 1) pa_nil))) pa_nil))) pe_int (nomark _)))) (fun _ _ _ _ _ => (pv 1))))), ?_⟩
    obtain ⟨ls, ha, hp⟩ := id hL
    have hll : ls.length = L.length := PySem.Paired.length hp
    refine p_ret (P := NewL (vIs (yardsL L))) (lcV (n := L.length + 1) (src_rng1 (n := L.length + 1) ?_ (by omega)) (by omega) (fun _ x => [some (.ref a), some x]) (fun _ _ => rfl) (fun _ _ _ _ _ _ _ q => q) (fun i => decide (1 < (adj L i).length)) (fun i => vI i) (fun i x H1 e1 hi hx => ?_) (fun i x H1 e1 hi hx _ => ?_)) fun v H1 e1 h => ?_
    · intro H1 e1 Q' q
      refine ⟨_, rfl, _, ls.length, rfl, .inl ⟨_, Evl.sq_of (e1 _ _ ha), rfl⟩, _, _, rfl, rfl, ?_⟩
      have z := q H1 (Ex.refl _)
      rw [hll]
      exact z
    · cases hx
      have hl : Ev (tCB (rLenA K) (tCons (tCall spBeside [] E0 (tCons (tVar 0) (tCons (tVar 1) tNil))) tNil)) [some (.ref a), some (vI i)] H1 (vI (adj L i).length) := by
        have := ev_lenP (K := K) (xs := vIs (adj L i)) (evp_callA (σ := [some (.ref a), some (vI i)]) (H := H1) (sp := spBeside) (E := E0) (dvs := []) (vs := [.ref a, vI i]) (ta := tCons (tVar 0) (tCons (tVar 1) tNil)) (P := fun v _ Hb => ∃ p, v = .ref p ∧ Hb p = some (.lst (vIs (adj L i)))) (vb2 rfl rfl) (fun H2 e2 Q q => ⟨L, a, i, rfl, hL.ex (e1.trans e2), hsm, fun p H3 e3 _ hp => q _ H3 e3 ⟨p, rfl, hp⟩⟩) (fun _ _ _ _ _ _ _ h => h))
        rw [List.length_map] at this
        exact this
      refine Evl.et_is (Evl.et_test (Evl.ev_op hl Evl.ev_c rv_I0P)) ?_
      exact decide_eq_decide.mpr (by omega)
    · cases hx
      exact Evl.ev_var rfl
    · obtain ⟨p, rfl, hp, h⟩ := h
      exact k p H1 e1 hp h
theorem ok_l_pairs (T : Txt K mg A) : FnOk P w K mg base CX0 1 A.l_pairs A.l_pairs_fd ["_law_near"] spPairsL := by
  refine T.F_l_pairs.ok sc_l_pairs (fun vs H Q E h => ?_) (fun cdv A' outer s H vs Q E hr h => ?_)
  · obtain ⟨B, r, N, _, rfl, _⟩ := h
    rfl
  · obtain ⟨B, r, N, eB, rfl, hN, hl, k⟩ := h
    refine ⟨_, (pss_cons (ps_set (i := 1) sc_l_pairs.nd rfl (Or.inl rfl) (pe_lst pa_nil)) (pss_cons (ps_for PassesOwn.never rfl (show PI _ _ _ (iList K _) from pi_list (pv 0)) (pg_name (i := 2) sc_l_pairs.nd rfl (Or.inr rfl)) (pss_one (ps_set (i := 1) sc_l_pairs.nd rfl (Or.inl rfl) (pe_op op_cat (pv 1) (pe_lc (own := [("_law_target", 3)]) rfl sc_l_pairs.nd (show PI _ _ _ (iList K _) from pi_list (pv 0)) (blkOk_by (N := n_l_pairs) (sc := defScope s_l_pairs) (by decide +kernel)) (fun _ _ _ _ _ => (pg_name (i := 3) sc_l_pairs.nd rfl (Or.inl rfl))) (fun _ _ _ _ _ => (pts_one (pt_cmpR op_ne (pv 3) (pv 2) (nomark _)))) (fun _ _ _ _ _ => (pe_tup (pa_cons (pv 2) (pa_cons (pv 3) pa_nil))))))))) (pss_one (ps_ret (pv 1))))), ?_⟩
    refine ⟨(by show 0 ≤ sizeLine; decide), fun f0 hf0 => ?_⟩
    have e0 : Ex H (upd H f0 (.lst [])) := Ex.new hf0
    have m0 : Mk B H (upd H f0 (.lst [])) (upd B f0 (.lst [])) := fun b o z => by
      by_cases n : b = f0
      · subst n
        rw [upd_same] at z ⊢
        exact ⟨z, .inr hf0⟩
      · rw [upd_ne n] at z ⊢
        exact ⟨eB _ _ z, .inl z⟩
    have b0 : Ex B (upd B f0 (.lst [])) := Ex.new (Evl.fresh_back eB hf0)
    have g0 : (upd B f0 (.lst [])) f0 = some (.lst []) := upd_same
    generalize upd B f0 (.lst []) = G0 at m0 b0 g0
    generalize upd H f0 (.lst []) = H1 at e0 m0
    have F : List Nat → List (Nat × Nat) := fun l => l.flatMap fun o => (N.filter fun t => !decide (t = o)).map fun t => (o, t)
    have hF : pairsN N = N.flatMap fun o => (N.filter fun t => !decide (t = o)).map fun t => (o, t) := by
      unfold pairsN
      congr 1
      funext o
      congr 2
      funext t
      congr 1
      exact decide_eq_decide.mpr ⟨fun h => h.symm, fun h => h.symm⟩
    have hlen : ∀ (M : List Nat), (M.flatMap fun o => (N.filter fun t => !decide (t = o)).map fun t => (o, t)).length ≤ M.length * 100 := by
      intro M
      induction M with
      | nil => simp
      | cons a M ih =>
        rw [List.flatMap_cons, List.length_append, List.length_map, List.length_cons, Nat.succ_mul]
        have := List.length_filter_le (fun t => !decide (t = a)) N
        omega
    dsimp only
    show tSeq (tFor _ _ _) _ _ ([some (.ref r), some (.ref f0), none, none]) H1
    refine Evl.q_forL (a := r) (xs := vIs N) (Evl.ev_var rfl) (Evl.sq_of (e0 _ _ (eB _ _ hN))) (fun i σ' H' => ∃ q y G, σ' = [some (.ref r), some (.ref q), y, none] ∧ H q = none ∧ Ex H H' ∧ Mk B H H' G ∧ Ex B G ∧ LstOf PrR G (.ref q) ((N.take i).flatMap fun o => (N.filter fun t => !decide (t = o)).map fun t => (o, t)))
      (fun H2 e2 => ⟨f0, none, G0, rfl, hf0, e0.trans e2, m0.on e2, b0, f0, [], rfl, g0, .nil⟩) (fun i σ' H' _ h => ?_) (fun i x σ' H' hx h => ?_) (fun σ' H' h => ?_)
    · obtain ⟨q, y, G, rfl, _, e, _⟩ := h
      exact Evl.sq_of (e _ _ (eB _ _ hN))
    · obtain ⟨q, y, G, rfl, _, e, m, bG, hq⟩ := h
      obtain ⟨o, ho, rfl⟩ : ∃ o, N[i]? = some o ∧ x = vI o := by
        unfold vIs at hx
        rw [List.getElem?_map] at hx
        cases hh : N[i]? with
        | none => rw [hh] at hx; cases hx
        | some u => rw [hh] at hx; exact ⟨u, rfl, (Option.some.inj hx).symm⟩
      have hNG := bG _ _ hN
      have hb := hlen (N.take i)
      have ht : (N.take i).length ≤ N.length := by rw [List.length_take]; omega
      have hf := List.length_filter_le (fun t => !decide (t = o)) N
      have h100 := Nat.mul_le_mul_right 100 (Nat.le_trans ht hl)
      refine p_asg1 (EvP.mono m.ex (evp_catL (m := (N.filter fun t => !decide (t = o)).map fun t => (o, t)) moP (Evl.ev_var rfl) hq (lcG (R := NR) (S := PrR) moN moP (src_list (K := K) (a := r) (Evl.ev_var rfl) (Evl.sq_of hNG)) (paired_N N) (by omega) (fun t x => [some (.ref r), some (.ref q), some (vI o), some x]) (fun _ _ => rfl) (fun _ _ _ _ _ _ _ _ q => q) (fun t => !decide (t = o)) (fun t x _ rt => ?_) (fun t => (o, t)) (fun t x _ rt _ => ?_)) (by rw [List.length_map]; omega))) fun v H2 e2 h => ?_
      · cases rt
        exact Evl.et_is (Evl.et_test (Evl.ev_op (Evl.ev_var rfl) (Evl.ev_var rfl) (Evl.rv_ne rfl))) (by rw [eqN])
      · cases rt
        exact newR_pair (K := K) (Evl.ev_var rfl) (Evl.ev_var rfl)
      · have h' := NewLst_chain m e h
        obtain ⟨q2, G2, rfl, f2, m2, b2, k2⟩ := NewLst_all moP ((eB.trans e).trans e2) h'
        refine ⟨q2, _, G2, rfl, f2, e.trans e2, m2, b2, ?_⟩
        rw [tk_more ho, List.flatMap_append, List.flatMap_cons, List.flatMap_nil, List.append_nil]
        exact k2
    · obtain ⟨q, y, G, rfl, fq, e, m, bG, hq⟩ := h
      rw [show (vIs N).length = N.length by rw [List.length_map], List.take_length, ← hF] at hq
      obtain ⟨p, vs, e1, k1, hp⟩ := hq
      cases e1
      exact ⟨_, rfl, k (.ref q) H' e ⟨q, vs, G, rfl, fq, m, k1, hp⟩⟩
end
end K26

set_option Elab.async false
set_option linter.all false
set_option maxRecDepth 100000
set_option maxHeartbeats 4000000
namespace Pr
open PySem PySem.Spec PyProof.Rows L2 TM Ep Nw
open Evl (Ex Ev EvT EvA EvL EvU EvO)
def nul : Hp := fun _ => none
/-- a book under way -/
structure BkS (H0 H : Hp) (p fl : Addr) (Hn : Hp) (ws : List V) (As : List Alt) : Prop where
  p0 : H0 p ≠ none
  ex : ExB p H0 H
  pot : PotAt H p
  hf : H fl = some (.lst ws)
  mk_ : Mk nul H0 H Hn
  nf : Hn fl = none
  pr : Paired (AltL Hn) ws As
  ff : H0 fl = none
  nfp : fl ≠ p
theorem mk_nul {H0 H Hn : Hp} (m : Mk nul H0 H Hn) {b : Addr} {o : HO} (h : Hn b = some o) : H0 b = none := by
  rcases (m b o h).2 with z | z
  · cases z
  · exact z
theorem mk_pot {H0 H H' Hn : Hp} {p : Addr} (m : Mk nul H0 H Hn) (p0 : H0 p ≠ none) (e : ExB p H H') : Mk nul H0 H' Hn := fun b o h =>
  ⟨e _ _ (m b o h).1 fun z => p0 (z ▸ mk_nul m h), .inr (mk_nul m h)⟩
theorem BkS.byPot {H0 H H' Hn : Hp} {p fl : Addr} {ws : List V} {As : List Alt} (S : BkS H0 H p fl Hn ws As) (e : ExB p H H') (hp : PotAt H' p) : BkS H0 H' p fl Hn ws As :=
  { S with ex := S.ex.trans e, pot := hp, hf := e _ _ S.hf S.nfp, mk_ := mk_pot S.mk_ S.p0 e }
theorem BkS.byEx {H0 H H' Hn : Hp} {p fl : Addr} {ws : List V} {As : List Alt} (S : BkS H0 H p fl Hn ws As) (e : Ex H H') : BkS H0 H' p fl Hn ws As := S.byPot (.of e) (S.pot.ex e)
structure BdS (H0 H : Hp) (p fl bl : Addr) (Hn : Hp) (ws us : List V) (As : List Alt) (bs : List Bd) : Prop extends BkS H0 H p fl Hn ws As where
  hb : H bl = some (.lst us)
  nb_ : Hn bl = none
  prb : Paired (BdR Hn) us bs
  fb : H0 bl = none
  nbp : bl ≠ p
  nbf : bl ≠ fl
theorem BdS.byPot {H0 H H' Hn : Hp} {p fl bl : Addr} {ws us : List V} {As : List Alt} {bs : List Bd} (S : BdS H0 H p fl bl Hn ws us As bs) (e : ExB p H H') (hp : PotAt H' p) : BdS H0 H' p fl bl Hn ws us As bs :=
  { S.toBkS.byPot e hp, S with hb := e _ _ S.hb S.nbp, ex := S.ex.trans e, pot := hp, hf := e _ _ S.hf S.nfp, mk_ := mk_pot S.mk_ S.p0 e }
theorem BdS.byEx {H0 H H' Hn : Hp} {p fl bl : Addr} {ws us : List V} {As : List Alt} {bs : List Bd} (S : BdS H0 H p fl bl Hn ws us As bs) (e : Ex H H') : BdS H0 H' p fl bl Hn ws us As bs := S.byPot (.of e) (S.pot.ex e)
/-- no list of bounds yet -/
theorem BkS.bounds {H0 H Hn : Hp} {p fl bl : Addr} {ws : List V} {As : List Alt} (S : BkS H0 H p fl Hn ws As) (h : H bl = none) : BdS H0 (upd H bl (.lst [])) p fl bl Hn ws [] As [] := by
  have np : bl ≠ p := fun z => by
    obtain ⟨_, _, q, _⟩ := S.pot
    rw [z, q] at h
    cases h
  have f0 : H0 bl = none := S.ex.free h np
  have nn : Hn bl = none := by
    cases e : Hn bl with
    | none => rfl
    | some o => rw [(S.mk_ _ _ e).1] at h; cases h
  exact { S.byEx (Ex.new h) with hb := upd_same, nb_ := nn, prb := .nil, fb := f0, nbp := np, nbf := fun z => by rw [z, S.hf] at h; cases h }
/-- one bound more -/
theorem BdS.more {H0 H Hn : Hp} {p fl bl t : Addr} {ws us : List V} {As : List Alt} {bs : List Bd} (S : BdS H0 H p fl bl Hn ws us As bs) (b : Bd) (h : H t = none) :
    BdS H0 (upd (upd H t (.tup [oV b.1, oV b.2.1, vI b.2.2])) bl (.lst (us ++ [.ref t]))) p fl bl (upd Hn t (.tup [oV b.1, oV b.2.1, vI b.2.2])) ws (us ++ [.ref t]) As (bs ++ [b]) := by
  have np : t ≠ p := fun z => by
    obtain ⟨_, _, q, _⟩ := S.pot
    rw [z, q] at h
    cases h
  have f0 : H0 t = none := S.ex.free h np
  obtain ⟨m2, ex2⟩ := S.mk_.put (o := .tup [oV b.1, oV b.2.1, vI b.2.2]) h f0
  have S1 := S.byEx (Ex.new (o := .tup [oV b.1, oV b.2.1, vI b.2.2]) h)
  have nb' : t ≠ bl := fun z => by rw [z, S.hb] at h; cases h
  have nf' : t ≠ fl := fun z => by rw [z, S.hf] at h; cases h
  have tn : (upd Hn t (.tup [oV b.1, oV b.2.1, vI b.2.2])) t = some (.tup [oV b.1, oV b.2.1, vI b.2.2]) := upd_same
  have nb2 : (upd Hn t (.tup [oV b.1, oV b.2.1, vI b.2.2])) bl = none := by rw [upd_ne nb'.symm]; exact S.nb_
  have nf2 : (upd Hn t (.tup [oV b.1, oV b.2.1, vI b.2.2])) fl = none := by rw [upd_ne nf'.symm]; exact S.nf
  generalize upd H t (.tup [oV b.1, oV b.2.1, vI b.2.2]) = H1 at S1 m2
  generalize upd Hn t (.tup [oV b.1, oV b.2.1, vI b.2.2]) = Hm at m2 ex2 tn nb2 nf2
  exact { p0 := S.p0, ex := S1.ex.mut S.fb, pot := S1.pot.put S.nbp, hf := by rw [upd_ne S.nbf.symm]; exact S1.hf, mk_ := fun c o k => ⟨by rw [upd_ne (fun z => by rw [z, nb2] at k; cases k)]; exact (m2 c o k).1, (m2 c o k).2⟩, nf := nf2, pr := moAL.paired ex2 S.pr, ff := S.ff, nfp := S.nfp, hb := upd_same, nb_ := nb2, prb := papp (moB.paired ex2 S.prb) (.cons ⟨t, rfl, tn⟩ .nil), fb := S.fb, nbp := S.nbp, nbf := S.nbf }
/-- the alternative is put in -/
theorem BdS.done {H0 H Hn : Hp} {p fl bl t : Addr} {ws us : List V} {As : List Alt} {bs : List Bd} (S : BdS H0 H p fl bl Hn ws us As bs) (n : Nat) (h : H t = none) :
    ∃ Hm, BkS H0 (upd (upd H t (.tup [vI n, .ref bl])) fl (.lst (ws ++ [.ref t]))) p fl Hm (ws ++ [.ref t]) (As ++ [(n, bs)]) := by
  have np : t ≠ p := fun z => by
    obtain ⟨_, _, q, _⟩ := S.pot
    rw [z, q] at h
    cases h
  have f0 : H0 t = none := S.ex.free h np
  have mb : Mk nul H0 H (upd Hn bl (.lst us)) := fun c o k => by
    by_cases e : c = bl
    · subst e
      rw [upd_same] at k
      exact ⟨S.hb.trans k, .inr S.fb⟩
    · rw [upd_ne e] at k
      exact S.mk_ c o k
  have exb : Ex Hn (upd Hn bl (.lst us)) := Ex.new S.nb_
  have bb : (upd Hn bl (.lst us)) bl = some (.lst us) := upd_same
  have nfb : (upd Hn bl (.lst us)) fl = none := by rw [upd_ne S.nbf.symm]; exact S.nf
  generalize upd Hn bl (.lst us) = Hb at mb exb bb nfb
  obtain ⟨m2, ex2⟩ := mb.put (o := .tup [vI n, .ref bl]) h f0
  have S1 := S.byEx (Ex.new (o := .tup [vI n, .ref bl]) h)
  have nf' : t ≠ fl := fun z => by rw [z, S.hf] at h; cases h
  have tn : (upd Hb t (.tup [vI n, .ref bl])) t = some (.tup [vI n, .ref bl]) := upd_same
  have nf2 : (upd Hb t (.tup [vI n, .ref bl])) fl = none := by rw [upd_ne nf'.symm]; exact nfb
  generalize upd H t (.tup [vI n, .ref bl]) = H1 at S1 m2
  generalize upd Hb t (.tup [vI n, .ref bl]) = Hm at m2 ex2 tn nf2
  refine ⟨Hm, { p0 := S.p0, ex := S1.ex.mut S.ff, pot := S1.pot.put S.nfp, hf := upd_same, mk_ := fun c o k => ⟨by rw [upd_ne (fun z => by rw [z, nf2] at k; cases k)]; exact (m2 c o k).1, (m2 c o k).2⟩, nf := nf2, pr := papp (moAL.paired (exb.trans ex2) S.pr) (.cons ⟨t, .ref bl, rfl, tn, bl, us, rfl, ex2 _ _ bb, moB.paired (exb.trans ex2) S.prb⟩ .nil), ff := S.ff, nfp := S.nfp }⟩
/-- an alternative that lets each single cart -/
def Lets1 (a : Alt) : Prop := ∀ o t, standsA [(o, t, 1)] a = true
theorem lets1_of {a : Alt} (h1 : 1 ≤ a.1) (h : ∀ b ∈ a.2, 1 ≤ b.2.2) : Lets1 a := fun o t => by
  unfold standsA
  rw [Bool.and_eq_true]
  refine ⟨decide_eq_true (by rw [carts_one]; simp [okO]; exact h1), ?_⟩
  rw [List.all_eq_true]
  intro b hb
  unfold keeps
  have := h b hb
  rw [carts_one]
  exact decide_eq_true (by split <;> simp <;> omega)
theorem goodBk_of {N : List Nat} {B As : Bk} (p : B.Perm As) (h1 : 1 ≤ As.length) (h4 : As.length ≤ 4) (g : ∀ a ∈ As, GoodA N a) (s : ∃ a ∈ As, Lets1 a) : GoodBk N B := by
  refine ⟨by rw [p.length_eq]; exact h1, by rw [p.length_eq]; exact h4, fun a ha => g a (p.mem_iff.mp ha), fun o t _ => ?_⟩
  obtain ⟨a, ha, l⟩ := s
  exact List.any_eq_true.mpr ⟨a, p.mem_iff.mpr ha, l o t⟩
def spBookL : Sp := fun vs H Q _ => ∃ p r N m, vs = [.ref p, .ref r, vI m] ∧ PotAt H p ∧ NAt H r N ∧ r ≠ p ∧ 2 ≤ N.length ∧ N.length ≤ 40 ∧ N.Nodup ∧ 1 ≤ m ∧ m ≤ 6 ∧ ∀ v B H', GoodBk N B → NewLst AltL nul B v H H' → ExB p H H' → PotAt H' p → (∀ a ∈ B, a.1 ≤ m ∧ a.2.length ≤ 2) → Q v H'
theorem two_pairs {N : List Nat} (h : 2 ≤ N.length) (nd : N.Nodup) : 0 < (pairsN N).length := by
  match N, h, nd with
  | a :: b :: N, _, nd =>
    have : (a, b) ∈ pairsN (a :: b :: N) := mem_pairs.mpr ⟨by simp, by simp, fun z => by subst z; simp at nd⟩
    exact List.length_pos_of_mem this
theorem pairs_len {N : List Nat} (h : N.length ≤ 40) : (pairsN N).length ≤ 1600 := by
  unfold pairsN
  rw [List.length_flatMap]
  have : ∀ (M : List Nat), (M.map fun o => ((N.filter fun t => !decide (o = t)).map fun t => (o, t)).length).sum ≤ M.length * 40 := by
    intro M
    induction M with
    | nil => simp
    | cons a M ih =>
      rw [List.map_cons, List.sum_cons, List.length_map, List.length_cons, Nat.succ_mul]
      have := List.length_filter_le (fun t => !decide (a = t)) N
      omega
  have h2 := this N
  have := Nat.mul_le_mul_right 40 h
  omega
end Pr
namespace K26
open PySem PySem.Spec PyProof.Rows L2 TM Pr Ep Nw
open Evl (Ex Ev EvT EvA EvL EvU EvO)
section
variable {P : Program} {w : World} {K : PySem.W.Frag} {mg : Str → Option Value} {base : Heap} {A : Adr}
theorem ok_l_book (T : Txt K mg A) : FnOk P w K mg base CX0 3 A.l_book A.l_book_fd ["_law_pot_here", "_law_near", "_law_most"] spBookL := by
  refine T.F_l_book.ok sc_l_book (fun vs H Q E h => ?_) (fun cdv A' outer s H vs Q E hr h => ?_)
  · obtain ⟨p, r, N, m, rfl, _⟩ := h
    rfl
  · obtain ⟨p, r, N, m, rfl, hp, hN, nrp, hN2, hN40, nd, hm1, hm6, k⟩ := h
    refine ⟨_, (pss_cons (ps_set (i := 3) sc_l_book.nd rfl (Or.inl rfl) (pe_lst pa_nil)) (pss_cons (ps_for PassesOwn.never rfl (pi_range1 (by rfl) T.n_range (pa_cons (pe_op op_add pe_int (pe_call (ok_l_draw T) (hr.mono (by decide)) (by rfl) T.m_l_draw T.F_l_draw.kp T.b_l_draw .nil pass0 (pa_cons (pv 0) (pa_cons pe_int pa_nil)))) pa_nil)) (pg_name (i := 4) sc_l_book.nd rfl (Or.inl rfl)) (pss_cons (ps_par (i := 5) (j := 6) (by rfl) sc_l_book.nd rfl rfl (by decide) rfl rfl (pa_cons (pe_op op_add pe_int (pe_call (ok_l_draw T) (hr.mono (by decide)) (by rfl) T.m_l_draw T.F_l_draw.kp T.b_l_draw .nil pass0 (pa_cons (pv 0) (pa_cons (pv 2) pa_nil)))) (pa_cons (pe_lst pa_nil) pa_nil)) (by rfl)) (pss_cons (ps_for PassesOwn.never rfl (pi_range1 (by rfl) T.n_range (pa_cons (pe_call (ok_l_draw T) (hr.mono (by decide)) (by rfl) T.m_l_draw T.F_l_draw.kp T.b_l_draw .nil pass0 (pa_cons (pv 0) (pa_cons pe_int pa_nil))) pa_nil)) (pg_name (i := 7) sc_l_book.nd rfl (Or.inl rfl)) (pss_cons (ps_asg (pe_call (ok_l_pick T) (hr.mono (by decide)) (by rfl) T.m_l_pick T.F_l_pick.kp T.b_l_pick .nil pass0 (pa_cons (pv 0) (pa_cons (pe_call (ok_l_pairs T) (hr.mono (by decide)) (by rfl) T.m_l_pairs T.F_l_pairs.kp T.b_l_pairs .nil pass0 (pa_cons (pv 1) pa_nil)) pa_nil))) (show PG _ _ (gTup K 2 _) from pg_tup rfl (pgs_cons (pg_name (i := 8) sc_l_book.nd rfl (Or.inl rfl)) (pgs_cons (pg_name (i := 9) sc_l_book.nd rfl (Or.inl rfl)) pgs_nil)))) (pss_cons (ps_par (i := 10) (j := 11) (by rfl) sc_l_book.nd rfl rfl (by decide) rfl rfl (pa_cons (pe_call (ok_l_draw T) (hr.mono (by decide)) (by rfl) T.m_l_draw T.F_l_draw.kp T.b_l_draw .nil pass0 (pa_cons (pv 0) (pa_cons pe_int pa_nil))) (pa_cons (pe_ifExp (pt_cmpR op_eq (pv 4) pe_int (nomark _)) pe_int pe_int) pa_nil)) (by rfl)) (pss_one (ps_expr (show PE _ _ (tBM K "list" rAppend _ _) from pe_bm PySem.F.plainAttrs_list PySem.F.slot_list_append PySem.F.type_list_append mt_append (pv 6) (pa_cons (pe_tup (pa_cons (pe_ifExp (pt_cmpR op_eq (pv 10) pe_int (nomark _)) pe_non (pv 8)) (pa_cons (pe_ifExp (pt_cmpR op_eq (pv 10) pe_int (nomark _)) pe_non (pv 9)) (pa_cons (pe_op op_add (pv 11) (pe_call (ok_l_draw T) (hr.mono (by decide)) (by rfl) T.m_l_draw T.F_l_draw.kp T.b_l_draw .nil pass0 (pa_cons (pv 0) (pa_cons pe_int pa_nil)))) pa_nil)))) pa_nil))))))) (pss_one (ps_expr (show PE _ _ (tBM K "list" rAppend _ _) from pe_bm PySem.F.plainAttrs_list PySem.F.slot_list_append PySem.F.type_list_append mt_append (pv 3) (pa_cons (pe_tup (pa_cons (pv 5) (pa_cons (pv 6) pa_nil))) pa_nil))))))) (pss_one (ps_ret (pe_call (ok_l_mixed T) (hr.mono (by decide)) (by rfl) T.m_l_mixed T.F_l_mixed.kp T.b_l_mixed .nil pass0 (pa_cons (pv 0) (pa_cons (pv 3) pa_nil))))))), ?_⟩
    have p0 : H p ≠ none := by
      obtain ⟨_, _, z, _⟩ := hp
      rw [z]
      exact fun z => nomatch z
    refine ⟨(by show 0 ≤ sizeLine; decide), fun fl hfl => ?_⟩
    have nfp : fl ≠ p := fun e => by
      obtain ⟨_, _, z, _⟩ := hp
      rw [e, z] at hfl
      cases hfl
    have e0 : Ex H (upd H fl (.lst [])) := Ex.new hfl
    have S0 : BkS H (upd H fl (.lst [])) p fl nul [] [] := ⟨p0, .of e0, hp.ex e0, upd_same, fun b o k => (nomatch k), rfl, .nil, hfl, nfp⟩
    generalize upd H fl (.lst []) = H1 at S0
    clear e0
    refine ⟨_, rfl, p, 3, rfl, S0.pot, by decide, by decide, fun d0 H2 hd0 hp2 e2 => ⟨_, _, rfl, rfl, _, rfl, by omega, by omega, ?_⟩⟩
    have S2 := S0.byPot e2 hp2
    refine for_range (lo := 0) (n := (1 + (d0 : Int)).toNat) (fun i σ' H' => ∃ y4 y5 y6 y7 y8 y9 y10 y11 ws As Hn, σ' = [some (.ref p), some (.ref r), some (vI m), some (.ref fl), y4, y5, y6, y7, y8, y9, y10, y11] ∧ BkS H H' p fl Hn ws As ∧ As.length = i ∧ (∀ a ∈ As, GoodA N a ∧ a.1 ≤ m ∧ a.2.length ≤ 2) ∧ (0 < i → ∃ a ∈ As, Lets1 a))
      ⟨_, _, _, _, _, _, _, _, [], [], nul, rfl, S2, rfl, fun _ h => (nomatch h), fun h => absurd h (by decide)⟩ (fun i σ' H3 hi h => ?_) (fun σ' H3 h => ?_)
    · obtain ⟨y4, y5, y6, y7, y8, y9, y10, y11, ws, As, Hn, rfl, S, hAl, hg, hl1⟩ := h
      have ei : V.int (0 + (i : Int)) = vI i := by show V.int _ = V.int _; congr 1; omega
      rw [ei]
      -- places, bounds
      refine ⟨_, rfl, _, rfl, p, m, rfl, S.pot, by omega, by omega, fun d H4 hd hp4 e4 => ⟨_, _, rfl, rfl, (by show 0 ≤ sizeLine; decide), fun bl hbl => ⟨_, _, rfl, ?_⟩⟩⟩
      have S4 := (S.byPot e4 hp4).bounds hbl
      generalize upd H4 bl (.lst []) = H5 at S4
      refine ⟨_, rfl, p, 3, rfl, S4.pot, by decide, by decide, fun d2 H6 hd2 hp6 e6 => ⟨_, rfl, by omega, by omega, ?_⟩⟩
      have S6 := S4.byPot e6 hp6
      refine for_range (lo := 0) (n := ((d2 : Int)).toNat) (fun j σ' H' => ∃ y7 y8 y9 y10 y11 us bs Hn, σ' = [some (.ref p), some (.ref r), some (vI m), some (.ref fl), some (vI i), some (vI (1 + d)), some (.ref bl), y7, y8, y9, y10, y11] ∧ BdS H H' p fl bl Hn ws us As bs ∧ bs.length = j ∧ (∀ b ∈ bs, GoodB N b ∧ (i = 0 → 1 ≤ b.2.2)))
        ⟨_, _, _, _, _, [], [], Hn, rfl, S6, rfl, fun _ h => (nomatch h)⟩ (fun j σ' H7 hj h => ?_) (fun σ' H7 h => ?_)
      · obtain ⟨y7, y8, y9, y10, y11, us, bs, Hn, rfl, S, hbl2, hgb⟩ := h
        have eus : us.length = bs.length := PySem.Paired.length S.prb
        -- origin, target
        have hN7 := S.ex _ _ hN nrp
        refine ⟨_, rfl, _, rfl, H7, r, N, Ex.refl _, rfl, hN7, by omega, fun v H8 e8 hv => ?_⟩
        obtain ⟨pa, xs, rfl, hpa, hxs⟩ := newLst_at moP hv
        have S8 := S.byEx e8
        have npa : pa ≠ p := fun e => by
          obtain ⟨q, _, _, er, fr, _⟩ := hv
          cases er
          obtain ⟨_, _, z, _⟩ := S.pot
          rw [e, z] at fr
          cases fr
        have hxl : xs.length = (pairsN N).length := PySem.Paired.length hxs
        refine ⟨p, pa, xs, rfl, S8.pot, hpa, npa, by rw [hxl]; exact two_pairs hN2 nd, by rw [hxl]; have := pairs_len hN40; omega, fun n x H9 hx hp9 e9 => ?_⟩
        obtain ⟨⟨o, t⟩, hot, tp, rfl, htp⟩ := pix hxs hx
        have mem := List.mem_of_getElem? hot
        obtain ⟨mo, mt, not_⟩ := mem_pairs.mp mem
        have S9 := S8.byPot e9 hp9
        have htp9 : H9 tp = some (.tup [vI o, vI t]) := e9 _ _ htp (fun e => by
          obtain ⟨_, _, z, _⟩ := S8.pot
          rw [e, z] at htp
          cases htp)
        refine go_2 htp9 ?_
        -- way, least
        refine ⟨_, rfl, p, 3, rfl, S9.pot, by decide, by decide, fun wy Ha hwy hpa2 ea => ?_⟩
        have Sa := S9.byPot ea hpa2
        have evl : ∀ {σ : L2.St} {Hx : Hp}, σ[4]? = some (some (vI i)) → Ev (tIf (tTest (tOp rEq (tVar 4) (tC (.int 0)))) (tC (.int 1)) (tC (.int 0))) σ Hx (vI (if i = 0 then 1 else 0)) := fun hs => Evl.ev_if (b := decide (i = 0)) (Evl.et_is (Evl.et_test (Evl.ev_op (Evl.ev_var hs) Evl.ev_c (Evl.rv_eq rfl))) (eqN (i := i) (j := 0))) (fun hb => Evl.ev_is Evl.ev_c (by rw [if_pos (of_decide_eq_true hb)]; rfl)) (fun hb => Evl.ev_is Evl.ev_c (by rw [if_neg (of_decide_eq_false hb)]; rfl))
        refine evl rfl Ha (Ex.refl _) _ fun Hb eb => ⟨_, _, rfl, ?_⟩
        have Sb := Sa.byEx eb
        -- bounds.append
        have ev1 : ∀ {σ : L2.St} {Hx : Hp}, σ[10]? = some (some (vI wy)) → σ[8]? = some (some (vI o)) → Ev (tIf (tTest (tOp rEq (tVar 10) (tC (.int 0)))) (tC .non) (tVar 8)) σ Hx (oV (if wy = 0 then none else some o)) := fun h1 h2 => Evl.ev_if (b := decide (wy = 0)) (Evl.et_is (Evl.et_test (Evl.ev_op (Evl.ev_var h1) Evl.ev_c (Evl.rv_eq rfl))) (eqN (i := wy) (j := 0))) (fun hb => Evl.ev_is Evl.ev_c (by rw [if_pos (of_decide_eq_true hb)]; rfl)) (fun hb => Evl.ev_is (Evl.ev_var h2) (by rw [if_neg (of_decide_eq_false hb)]; rfl))
        have ev2 : ∀ {σ : L2.St} {Hx : Hp}, σ[10]? = some (some (vI wy)) → σ[9]? = some (some (vI t)) → Ev (tIf (tTest (tOp rEq (tVar 10) (tC (.int 1)))) (tC .non) (tVar 9)) σ Hx (oV (if wy = 1 then none else some t)) := fun h1 h2 => Evl.ev_if (b := decide (wy = 1)) (Evl.et_is (Evl.et_test (Evl.ev_op (Evl.ev_var h1) Evl.ev_c (Evl.rv_eq rfl))) (eqN (i := wy) (j := 1))) (fun hb => Evl.ev_is Evl.ev_c (by rw [if_pos (of_decide_eq_true hb)]; rfl)) (fun hb => Evl.ev_is (Evl.ev_var h2) (by rw [if_neg (of_decide_eq_false hb)]; rfl))
        refine ⟨_, rfl, .inl ⟨rfl, _, .inl (.inl Sb.hb)⟩, ?_⟩
        refine ev1 rfl rfl Hb (Ex.refl _) _ fun Hc ec => ?_
        refine ev2 rfl rfl Hc (Ex.refl _) _ fun Hd ed => ?_
        have Sd := (Sb.byEx ec).byEx ed
        refine ⟨_, rfl, _, rfl, p, 3, rfl, Sd.pot, by decide, by decide, fun dd He hdd hpe ee => ⟨_, _, rfl, rfl, (by show 3 ≤ sizeLine; decide), fun tq htq => ?_⟩⟩
        have Se := Sd.byPot ee hpe
        let b : Bd := (if wy = 0 then none else some o, if wy = 1 then none else some t, (if i = 0 then 1 else 0) + dd)
        have Sf := Se.more b htq
        have nbt : bl ≠ tq := ne_of_none Se.hb htq
        have hgn : GoodB N b := by
          refine ⟨?_, fun o' h => ?_, fun t' h => ?_, fun o' t' h1 h2 => ?_, ?_⟩
          · show (if wy = 0 then none else some o) ≠ none ∨ (if wy = 1 then none else some t) ≠ none
            by_cases c : wy = 0
            · right
              rw [if_neg (by omega)]
              exact fun z => nomatch z
            · left
              rw [if_neg c]
              exact fun z => nomatch z
          · have h : (if wy = 0 then none else some o) = some o' := h
            split at h
            · cases h
            · cases h
              exact mo
          · have h : (if wy = 1 then none else some t) = some t' := h
            split at h
            · cases h
            · cases h
              exact mt
          · have h1 : (if wy = 0 then none else some o) = some o' := h1
            have h2 : (if wy = 1 then none else some t) = some t' := h2
            split at h1
            · cases h1
            · split at h2
              · cases h2
              · cases h1; cases h2
                exact not_
          · show (if i = 0 then 1 else 0) + dd ≤ 6
            split <;> omega
        refine ⟨bl, us, _, rfl, rfl, ?_, szN (by omega), ?_⟩
        · rw [upd_ne nbt]
          exact Se.hb
        · refine ⟨_, _, _, _, _, _, bs ++ [b], _, rfl, Sf, by simp [hbl2], fun c hc => ?_⟩
          rcases List.mem_append.mp hc with h | h
          · exact hgb c h
          · rw [List.mem_singleton.mp h]
            refine ⟨hgn, fun h0 => ?_⟩
            show 1 ≤ (if i = 0 then 1 else 0) + dd
            rw [if_pos h0]
            omega
      · obtain ⟨y7, y8, y9, y10, y11, us, bs, Hn, rfl, S, hbl2, hgb⟩ := h
        have ewl : ws.length = As.length := PySem.Paired.length S.pr
        refine ⟨_, rfl, .inl ⟨rfl, _, .inl (.inl S.hf)⟩, _, rfl, _, rfl, (by show 2 ≤ sizeLine; decide), fun t ht => ?_⟩
        obtain ⟨Hm, Sf⟩ := S.done (1 + d) ht
        have nft : fl ≠ t := ne_of_none S.hf ht
        refine ⟨fl, ws, _, rfl, rfl, by rw [upd_ne nft]; exact S.hf, szN (by omega), ?_⟩
        refine ⟨_, _, _, _, _, _, _, _, _, As ++ [(1 + d, bs)], Hm, rfl, Sf, by simp [hAl], fun a ha => ?_, fun _ => ?_⟩
        · rcases List.mem_append.mp ha with h | h
          · exact hg a h
          · rw [List.mem_singleton.mp h]
            exact ⟨⟨by simp only; omega, by simp only; omega, by simp only; omega, fun b hb => (hgb b hb).1⟩, by simp only; omega, by simp only; omega⟩
        · by_cases c : i = 0
          · exact ⟨(1 + d, bs), by simp, lets1_of (by simp only; omega) fun b hb => (hgb b hb).2 c⟩
          · obtain ⟨a, ha, l⟩ := hl1 (by omega)
            exact ⟨a, by simp [ha], l⟩
    · obtain ⟨y4, y5, y6, y7, y8, y9, y10, y11, ws, As, Hn, rfl, S, hAl, hg, hl1⟩ := h
      have ewl : ws.length = As.length := PySem.Paired.length S.pr
      refine ⟨_, rfl, _, rfl, p, fl, ws, rfl, S.pot, S.hf, S.nfp, by omega, fun c ys H4 pm hc fc e4 hp4 => ?_⟩
      obtain ⟨B, pB, hB⟩ := perm_paired pm S.pr
      have ncp : c ≠ p := fun e => by
        obtain ⟨_, _, z, _⟩ := S.pot
        rw [e, z] at fc
        cases fc
      have f0 : H c = none := S.ex.free fc ncp
      have nn : Hn c = none := by
        cases e : Hn c with
        | none => rfl
        | some o => rw [(S.mk_ _ _ e).1] at fc; cases fc
      have mk4 := mk_pot S.mk_ S.p0 e4
      refine k (.ref c) B H4 (goodBk_of pB (by omega) (by omega) (fun a ha => (hg a ha).1) (hl1 (by omega))) ⟨c, ys, upd Hn c (.lst ys), rfl, f0, fun b o z => ?_, upd_same, moAL.paired (Ex.new nn) hB⟩ (S.ex.trans e4) hp4 (fun a ha => (hg a (pB.mem_iff.mp ha)).2)
      by_cases e : b = c
      · subst e
        rw [upd_same] at z
        exact ⟨hc.trans z, .inr f0⟩
      · rw [upd_ne e] at z
        exact mk4 b o z
end
end K26

set_option Elab.async false
set_option linter.all false
set_option maxRecDepth 100000
set_option maxHeartbeats 4000000
namespace Pr
open PySem PySem.Spec PyProof.Rows L2 TM Ep Nw
open Evl (Ex Ev EvT EvA EvL EvU EvO)
/-- things of a base beside the pot, put into a list -/
structure GvS {β : Type} (S : Rep β) (B0 H0 H : Hp) (p fl : Addr) (Hn : Hp) (ws : List V) (As : List β) : Prop where
  p0 : H0 p ≠ none
  b0p : B0 p = none
  bH : Ex B0 Hn
  ex : ExB p H0 H
  pot : PotAt H p
  hf : H fl = some (.lst ws)
  mk_ : Mk B0 H0 H Hn
  nf : Hn fl = none
  pr : Paired (S Hn) ws As
  ff : H0 fl = none
  nfp : fl ≠ p
theorem mkB_pot {B0 H0 H H' Hn : Hp} {p : Addr} (m : Mk B0 H0 H Hn) (b0 : B0 p = none) (p0 : H0 p ≠ none) (e : ExB p H H') : Mk B0 H0 H' Hn := fun b o h =>
  ⟨e _ _ (m b o h).1 fun z => by
    subst z
    rcases (m b o h).2 with y | y
    · rw [b0] at y; cases y
    · exact p0 y, (m b o h).2⟩
theorem GvS.byPot {β : Type} {S : Rep β} {B0 H0 H H' Hn : Hp} {p fl : Addr} {ws : List V} {As : List β} (G : GvS S B0 H0 H p fl Hn ws As) (e : ExB p H H') (hp : PotAt H' p) : GvS S B0 H0 H' p fl Hn ws As :=
  { G with ex := G.ex.trans e, pot := hp, hf := e _ _ G.hf G.nfp, mk_ := mkB_pot G.mk_ G.b0p G.p0 e }
theorem GvS.byEx {β : Type} {S : Rep β} {B0 H0 H H' Hn : Hp} {p fl : Addr} {ws : List V} {As : List β} (G : GvS S B0 H0 H p fl Hn ws As) (e : Ex H H') : GvS S B0 H0 H' p fl Hn ws As := G.byPot (.of e) (G.pot.ex e)
theorem GvS.start {β : Type} {S : Rep β} {B0 H0 : Hp} {p fl : Addr} (eB : Ex B0 H0) (hp : PotAt H0 p) (b0 : B0 p = none) (h : H0 fl = none) : GvS S B0 H0 (upd H0 fl (.lst [])) p fl B0 [] [] := by
  have e : Ex H0 (upd H0 fl (.lst [])) := Ex.new h
  obtain ⟨_, _, z, _⟩ := id hp
  exact ⟨(by rw [z]; exact fun z => (nomatch z)), b0, Ex.refl _, .of e, hp.ex e, upd_same, fun b o k => ⟨e _ _ (eB _ _ k), .inl k⟩, Evl.fresh_back eB h, .nil, h, fun y => by rw [y, z] at h; cases h⟩
/-- one more is put in: told of a part that is known or new -/
theorem GvS.more {β : Type} {S : Rep β} (mo : Mono S) {B0 H0 H Hn Hv H2 : Hp} {p fl : Addr} {ws : List V} {As : List β} {v : V} {a : β} (G : GvS S B0 H0 H p fl Hn ws As) (e : Ex H H2) (mv : Mk B0 H H2 Hv) (sv : S Hv v a) : ∃ Hm, GvS S B0 H0 (upd H2 fl (.lst (ws ++ [v]))) p fl Hm (ws ++ [v]) (As ++ [a]) := by
  have G2 := G.byEx e
  have h0 : B0 fl = none := by
    cases z : B0 fl with
    | none => rfl
    | some o =>
      have := G.nf
      rw [G.bH _ _ z] at this
      cases this
  have dv : Hv fl = none := by
    cases c : Hv fl with
    | none => rfl
    | some o =>
      rcases (mv fl o c).2 with z | z
      · rw [h0] at z; cases z
      · rw [G.hf] at z; cases z
  have mv2 : Mk B0 H0 H2 Hv := fun b o k => ⟨(mv b o k).1, (mv b o k).2.imp id fun z => G.ex.free z fun y => by
    subst y
    obtain ⟨_, _, q, _⟩ := G.pot
    rw [q] at z
    cases z⟩
  obtain ⟨mj, ja, jb⟩ := G2.mk_.join mv2
  have dj : join Hn Hv fl = none := by
    unfold join
    rw [G.nf]
    exact dv
  exact ⟨_, { p0 := G.p0, b0p := G.b0p, bH := G.bH.trans ja, ex := G2.ex.mut G.ff, pot := G2.pot.put G.nfp, hf := upd_same, mk_ := fun b o k => ⟨by rw [upd_ne (fun z => by rw [z, dj] at k; cases k)]; exact (mj b o k).1, (mj b o k).2⟩, nf := dj, pr := papp (mo.paired ja G.pr) (.cons (mo _ _ _ _ jb sv) .nil), ff := G.ff, nfp := G.nfp }⟩
/-- a pair laid, then what follows -/
def tTupK (a b : V) : Hp → VK → Prop := fun H Q => 2 ≤ sizeLine ∧ ∀ p, H p = none → Q (.ref p) (upd H p (.tup [a, b]))
def spGiven : Sp := fun vs H Q _ => ∃ B0 p v B, Ex B0 H ∧ vs = [.ref p, v] ∧ PotAt H p ∧ B0 p = none ∧ LstOf AltL B0 v B ∧ B.length ≤ 100 ∧ ∀ z H' Hn, Mk B0 H H' Hn → BkR Hn z B → ExB p H H' → PotAt H' p → Q z H'
def spGivenL : Sp := fun vs H Q _ => ∃ B0 p v l, Ex B0 H ∧ vs = [.ref p, v] ∧ PotAt H p ∧ B0 p = none ∧ LstOf EntR B0 v l ∧ ∀ z H' Hn, Mk B0 H H' Hn → LdR Hn z l → ExB p H H' → PotAt H' p → Q z H'
section
variable {K : PySem.W.Frag} {σ : L2.St} {H : Hp} {te : TE}
/-- tuple(x), list(x) of a list -/
theorem evp_tupL {β : Type} {S : Rep β} (mo : Mono S) {v : V} {l : List β} (h : Ev te σ H v) (hs : LstOf S H v l) : EvP (tCB (rTupOf K) (tCons te tNil)) σ H (NewR (SeqR S) H l) := fun H1 e Q q =>
  h H1 e _ fun H2 e2 => by
    obtain ⟨p, vs, rfl, k, hp⟩ := hs
    refine ⟨p, vs, rfl, .inl ⟨Evl.sq_of ((e.trans e2) _ _ k), fun c hc => ?_⟩⟩
    have f1 := Evl.fresh_back e2 hc
    have m0 : Mk H H1 H2 H := fun b o z => ⟨(e.trans e2) _ _ z, .inl z⟩
    obtain ⟨m2, ex2⟩ := m0.put (o := .tup vs) hc f1
    exact q _ _ (e2.trans (Ex.new hc)) ⟨_, m2, c, vs, rfl, .inr upd_same, mo.paired ex2 hp⟩
theorem evp_lstL {β : Type} {S : Rep β} (mo : Mono S) {v : V} {l : List β} (h : Ev te σ H v) (hs : LstOf S H v l) : EvP (tCB (rListOf K) (tCons te tNil)) σ H (NewR (SeqR S) H l) :=
  (evp_listS (K := K) mo h (seq_of hs)).imp fun v Ha Hb _ _ h => by
    obtain ⟨Hn, m, k⟩ := h.r
    exact ⟨Hn, m, seq_of k⟩
end
end Pr
namespace K26
open PySem PySem.Spec PyProof.Rows L2 TM Pr Ep Nw
open Evl (Ex Ev EvT EvA EvL EvU EvO)
section
variable {P : Program} {w : World} {K : PySem.W.Frag} {mg : Str → Option Value} {base : Heap} {A : Adr}
end
end K26

set_option Elab.async false
set_option linter.all false
set_option maxRecDepth 100000
set_option maxHeartbeats 4000000
namespace Pr
open PySem PySem.Spec PyProof.Rows L2 TM Ep Nw
open Evl (Ex Ev EvT EvA EvL EvU EvO)
def spManyL : Sp := fun vs H Q _ => ∃ v l o t, vs = [v, oV o, oV t] ∧ LstOf EntR H v l ∧ l.length ≤ 1000 ∧ ∀ H', Ex H H' → Q (vI (carts l o t)) H'
def spStandsL : Sp := fun vs H Q _ => ∃ b B v l, vs = [b, v] ∧ LstOf AltL H b B ∧ B.length ≤ 100 ∧ (∀ a ∈ B, a.2.length ≤ 1000) ∧ LstOf EntR H v l ∧ l.length ≤ 1000 ∧ ∀ H', Ex H H' → Q (.bl (standsB B l)) H'
def spMoreL : Sp := fun vs H Q _ => ∃ B v l o t, Ex B H ∧ vs = [v, vI o, vI t] ∧ LstOf EntR B v l ∧ l.length ≤ 60 ∧ SmL (others l o t ++ [(o, t, carts l (some o) (some t) + 1)]) ∧ ∀ z H', Ex H H' → NewLst EntR B (addL l o t) z H H' → Q z H'
def spLessL : Sp := fun vs H Q _ => ∃ v l w m, vs = [v, w] ∧ LstOf EntR H v l ∧ l.length ≤ 1000 ∧ LstOf EntR H w m ∧ m.length ≤ 1000 ∧ ∀ H', Ex H H' → Q (.bl (withinL l m)) H'
def spLessened : Sp := fun vs H Q _ => ∃ B v A e C, Ex B H ∧ vs = [v, vI (List.length A)] ∧ LstOf EntR B v (A ++ e :: C) ∧ (A ++ e :: C).length ≤ 1000 ∧ 0 < e.2.2 ∧ ∀ z H', Ex H H' → NewLst EntR B (A ++ less1 e ++ C) z H H' → Q z H'
def spRenB : Sp := fun vs H Q _ => ∃ B0 n ps v B, Ex B0 H ∧ vs = [.ref n, v] ∧ B0 n = some (.lst (vIs ps)) ∧ LstOf AltL B0 v B ∧ B.length ≤ 100 ∧ (∀ a ∈ B, a.2.length ≤ 1000 ∧ ∀ b ∈ a.2, (∀ y, b.1 = some y → y < ps.length) ∧ (∀ y, b.2.1 = some y → y < ps.length)) ∧ ∀ z H', Ex H H' → NewLst AltL B0 (renB (fun i => ps.getD i 0) B) z H H' → Q z H'
def spLoadL : Sp := fun vs H Q _ => ∃ B p r N m, Ex B H ∧ B p = none ∧ vs = [.ref p, .ref r, vI m] ∧ PotAt H p ∧ LstOf PrR B (.ref r) (pairsN N) ∧ 0 < (pairsN N).length ∧ (pairsN N).length ≤ 2000 ∧ (∀ x ∈ N, x < 1024) ∧ m ≤ 20 ∧ ∀ v l H', GoodL N l → carts l none none ≤ m → NewLst EntR nul l v H H' → ExB p H H' → PotAt H' p → Q v H'
section
variable {K : PySem.W.Frag} {σ : L2.St} {H : Hp} {te ta tb : TE} {ts : TA}
theorem ev_many {v : V} {l : Ld} {o t : Option Nat} (h : EvA ts σ H [v, oV o, oV t]) (hl : LstOf EntR H v l) (hs : l.length ≤ 1000) : Ev (tCall spManyL [] E0 ts) σ H (vI (carts l o t)) :=
  ev_evp (evp_callA h (fun H2 e2 Q q => ⟨v, l, o, t, rfl, moE.lst _ _ _ _ e2 hl, hs, fun H3 e3 => q _ H3 e3 rfl⟩) (fun _ _ _ _ _ _ _ h => h))
/-- all([te for x in xs]), xs a list of such -/
theorem ev_allL {α : Type} [Inhabited α] {R : Rep α} (mR : Mono R) {tl : TE} {g : TG} {vs : List Nat} {v : V} {L : List α} (hv : Ev tl σ H v) (hs : LstOf R H v L) (hn : L.length ≤ 50000) (st : α → V → L2.St) (hw : ∀ a x, wipe (st a x) vs = wipe σ vs)
    (hg : ∀ a x H1 Q, a ∈ L → Ex H H1 → R H1 x a → Q (st a x) H1 → g x (wipe σ vs) H1 Q) (f : α → Bool) (he : ∀ a x, a ∈ L → R H x a → Ev te (st a x) H (.bl (f a))) : Ev (tCB (rAll K) (tCons (tLc (iList K tl) g tYes te vs) tNil)) σ H (.bl (L.all f)) := by
  obtain ⟨p, ls, rfl, hx, hp⟩ := hs
  have := ev_all (K := K) (bs := L.map f) (te := tLc (iList K tl) g tYes te vs) (σ := σ) (H := H) (by
    rw [← map_bl]
    exact lcW mR (src_list hv (Evl.sq_of hx)) hp hn st hw (fun a x H1 Q ha e _ r q => hg a x H1 Q ha e r q) (fun _ => true) (fun _ _ _ _ => yes_ev) (fun a => .bl (f a)) (fun a x ha r _ => he a x ha r))
  rw [all_map] at this
  exact this
/-- a if t else b, new either way -/
theorem evp_ifN {P : VP} {t : TT} {b : Bool} (h : EvT t σ H b) (h1 : b = true → EvP ta σ H P) (h2 : b = false → EvP tb σ H P) (mo : ∀ v Ha Hb Hc, Ex H Ha → Ex Ha Hb → P v Hb Hc → P v Ha Hc := by intro v Ha Hb Hc _ e h; exact h.back e) : EvP (tIf t ta tb) σ H P := fun H1 e Q q =>
  h H1 e _ fun H2 e2 => by
    cases b with
    | true => exact iteT (h1 rfl H2 (e.trans e2) _ fun v H3 e3 p => q v H3 (e2.trans e3) (mo v H1 H2 H3 e e2 p))
    | false => exact iteF (h2 rfl H2 (e.trans e2) _ fun v H3 e3 p => q v H3 (e2.trans e3) (mo v H1 H2 H3 e e2 p))
theorem evp_nilS {β : Type} {S : Rep β} : EvP (tLst tNil) σ H (NewLst S H []) := fun H1 e Q q => ⟨(by show 0 ≤ sizeLine; decide), fun c hc => q _ _ (Ex.new hc) ⟨c, [], upd H c (.lst []), rfl, hc, fun b o z => by
  by_cases n : b = c
  · subst n
    rw [upd_same] at z ⊢
    exact ⟨z, .inr hc⟩
  · rw [upd_ne n] at z ⊢
    exact ⟨e _ _ z, .inl z⟩, upd_same, .nil⟩⟩
/-- x[i] of a tuple -/
theorem ev_ixT {t : Addr} {xs : List V} {j : Nat} {z : V} (h : Ev te σ H (.ref t)) (ht : H t = some (.tup xs)) (hz : xs[j]? = some z) : Ev (tOp (rIxT K) te (tC (.int (j : Int)))) σ H z := Evl.ev_op h Evl.ev_c (Evl.rv_ixT (Evl.st_of ht) (at_of rfl hz))
end
end Pr
namespace K26
open PySem PySem.Spec PyProof.Rows L2 TM Pr Ep Nw
open Evl (Ex Ev EvT EvA EvL EvU EvO)
section
variable {P : Program} {w : World} {K : PySem.W.Frag} {mg : Str → Option Value} {base : Heap} {A : Adr}
theorem ok_l_many (T : Txt K mg A) : FnOk P w K mg base CX0 1 A.l_many A.l_many_fd ["_law_load", "_law_origin", "_law_target"] spManyL := by
  refine T.F_l_many.ok sc_l_many (fun vs H Q E h => ?_) (fun cdv A' outer s H vs Q E hr h => ?_)
  · obtain ⟨v, l, o, t, rfl, _⟩ := h
    rfl
  · obtain ⟨v, l, o, t, rfl, hl, hs, k⟩ := h
    refine ⟨_, (pss_one (ps_ret (show PE _ _ (tCB (rSum K) _) from (pe_callB (id := "sum") (cr_sum rfl) (by rfl) T.n_sum (by decide +kernel) (pa_cons (pe_lc (own := [("_law_row", 3)]) rfl sc_l_many.nd (show PI _ _ _ (iList K _) from pi_list (pv 0)) (blkOk_by (N := n_l_many) (sc := defScope s_l_many) (by decide +kernel)) (fun _ _ _ _ _ => (pg_name (i := 3) sc_l_many.nd rfl (Or.inl rfl))) (fun _ _ _ _ _ => (pts_one (PW.pt (pw_and (show PT _ _ (tTest (tOp (rIn K false) _ _)) from pt_cmpR op_in_seq (pv 1) (pe_tup (pa_cons pe_non (pa_cons (show PE _ _ (tOp (rIxT K) _ _) from pe_ix ix_tup (pv 3) pe_int (fun _ _ => rfl)) pa_nil))) (by rfl)) (pw_and1 (show PT _ _ (tTest (tOp (rIn K false) _ _)) from pt_cmpR op_in_seq (pv 2) (pe_tup (pa_cons pe_non (pa_cons (show PE _ _ (tOp (rIxT K) _ _) from pe_ix ix_tup (pv 3) pe_int (fun _ _ => rfl)) pa_nil))) (by rfl))))))) (fun _ _ _ _ _ => (show PE _ _ (tOp (rIxT K) _ _) from pe_ix ix_tup (pv 3) pe_int (fun _ _ => rfl)))) pa_nil))))), ?_⟩
    obtain ⟨p, vs, rfl, hx, hp⟩ := id hl
    refine p_ret (P := Is (vI (carts l o t))) (evp_ev (ev_sumN (l := (l.filter fun e => okO o e.1 && okO t e.2.1).map fun e => e.2.2) ?_)) fun v H1 e1 h => ?_
    · refine EvP.imp (lcW moE (src_list (K := K) (Evl.ev_var rfl) (Evl.sq_of hx)) hp (by omega) (fun e x => [some (.ref p), some (oV o), some (oV t), some x]) (fun _ _ => rfl) (fun e x H1 Q _ _ _ r q => q) (fun e => okO o e.1 && okO t e.2.1) (fun e x _ re => ?_) (fun e => vI e.2.2) (fun e x _ re _ => ?_)) (fun v Ha Hb _ _ h => ?_)
      · obtain ⟨t', rfl, h⟩ := re
        exact Evl.et_and (Evl.et_test (ev_inO (Evl.ev_var rfl) (ev_ixT (K := K) (j := 0) (Evl.ev_var rfl) h rfl))) (fun _ => Evl.et_test (ev_inO (Evl.ev_var rfl) (ev_ixT (K := K) (j := 1) (Evl.ev_var rfl) h rfl)))
      · obtain ⟨t', rfl, h⟩ := re
        exact ev_ixT (K := K) (j := 2) (Evl.ev_var rfl) h rfl
      · obtain ⟨q, r, fq, hq⟩ := h
        refine ⟨q, r, fq, ?_⟩
        rw [hq]
        unfold vIs
        rw [List.map_map]
        rfl
    · subst h
      exact k H1 e1
theorem ok_l_stands (T : Txt K mg A) : FnOk P w K mg base CX0 2 A.l_stands A.l_stands_fd ["_law_book_here", "_law_load"] spStandsL := by
  refine T.F_l_stands.ok sc_l_stands (fun vs H Q E h => ?_) (fun cdv A' outer s H vs Q E hr h => ?_)
  · obtain ⟨b, B, v, l, rfl, _⟩ := h
    rfl
  · obtain ⟨b, B, v, l, rfl, hB, hBl, hbs, hl, hs, k⟩ := h
    refine ⟨_, (pss_cons (ps_for PassesOwn.never rfl (show PI _ _ _ (iList K _) from pi_list (pv 0)) (show PG _ _ (gTup K 2 _) from pg_tup rfl (pgs_cons (pg_name (i := 2) sc_l_stands.nd rfl (Or.inl rfl)) (pgs_cons (pg_name (i := 3) sc_l_stands.nd rfl (Or.inl rfl)) pgs_nil))) (pss_one (ps_if (PW.pt (pw_and (pt_cmpR op_le (pe_call (ok_l_many T) (hr.mono (by decide)) (by rfl) T.m_l_many T.F_l_many.kp T.b_l_many .nil pass0 (pa_cons (pv 1) (pa_cons pe_non (pa_cons pe_non pa_nil)))) (pv 2) (nomark _)) (pw_and1 (pt_val (show PE _ _ (tCB (rAll K) _) from (pe_callB (id := "all") (cr_all rfl) (by rfl) T.n_all (by decide +kernel) (pa_cons (pe_lc (own := [("_law_bound", 4)]) rfl sc_l_stands.nd (show PI _ _ _ (iList K _) from pi_list (pv 3)) (blkOk_by (N := n_l_stands) (sc := defScope s_l_stands) (by decide +kernel)) (fun _ _ _ _ _ => (pg_name (i := 4) sc_l_stands.nd rfl (Or.inl rfl))) (fun _ _ _ _ _ => pts_nil) (fun _ _ _ _ _ => (pe_cmpR op_le (pe_call (ok_l_many T) (hr.mono (by decide)) (by rfl) T.m_l_many T.F_l_many.kp T.b_l_many .nil pass0 (pa_cons (pv 1) (pa_cons (show PE _ _ (tOp (rIxT K) _ _) from pe_ix ix_tup (pv 4) pe_int (fun _ _ => rfl)) (pa_cons (show PE _ _ (tOp (rIxT K) _ _) from pe_ix ix_tup (pv 4) pe_int (fun _ _ => rfl)) pa_nil)))) (show PE _ _ (tOp (rIxT K) _ _) from pe_ix ix_tup (pv 4) pe_int (fun _ _ => rfl)) (nomark _)))) pa_nil))))))) (pss_one (ps_ret pe_bl)) pss_nil))) (pss_one (ps_ret pe_bl))), ?_⟩
    obtain ⟨q, vs, rfl, hq, hpb⟩ := hB
    have hvl : vs.length = B.length := PySem.Paired.length hpb
    refine Evl.q_forL (a := q) (xs := vs) (Evl.ev_var rfl) (Evl.sq_of hq) (fun i σ' H' => ∃ y2 y3, σ' = [some (.ref q), some v, y2, y3, none] ∧ Ex H H' ∧ standsB (B.take i) l = false)
      (fun H2 e2 => ⟨none, none, rfl, e2, rfl⟩) (fun i σ' H' _ h => ?_) (fun i x σ' H' hx h => ?_) (fun σ' H' h => ?_)
    · obtain ⟨y2, y3, rfl, e, _⟩ := h
      exact Evl.sq_of (e _ _ hq)
    · obtain ⟨y2, y3, rfl, e, hf⟩ := h
      obtain ⟨a, ha, t, z, rfl, ht, hz⟩ := pix hpb hx
      have ma := List.mem_of_getElem? ha
      refine go_2 (e _ _ ht) ?_
      have hl' := moE.lst _ _ _ _ e hl
      refine Evl.s_when (b := standsA l a) (Evl.et_and (Evl.et_is (Evl.et_test (Evl.ev_op (ev_many (o := none) (t := none) (Evl.ea_cons (Evl.ev_var rfl) (Evl.ea_cons Evl.ev_c (Evl.ea_cons Evl.ev_c Evl.ea_nil))) hl' hs) (Evl.ev_var rfl) rv_I0P)) dec_le) (fun _ => Evl.et_B (ev_allL moB (Evl.ev_var rfl) (moB.lst _ _ _ _ e hz) (by have := hbs a ma; omega) (fun b x => [some (.ref q), some v, some (vI a.1), some z, some x]) (fun _ _ => rfl) (fun _ _ _ _ _ _ _ q => q) (keeps l) (fun b x _ rb => ?_)))) (fun hb H2 e2 => ?_) (fun hb H2 e2 => ?_)
      · obtain ⟨t', rfl, h⟩ := rb
        exact Evl.ev_is (Evl.ev_op (ev_many (o := b.1) (t := b.2.1) (Evl.ea_cons (Evl.ev_var rfl) (Evl.ea_cons (ev_ixT (K := K) (j := 0) (Evl.ev_var rfl) h rfl) (Evl.ea_cons (ev_ixT (K := K) (j := 1) (Evl.ev_var rfl) h rfl) Evl.ea_nil))) hl' hs) (ev_ixT (K := K) (j := 2) (Evl.ev_var rfl) h rfl) rv_I0P) (by show V.bl _ = _; rw [dec_le]; rfl)
      · have hst : standsB B l = true := List.any_eq_true.mpr ⟨a, ma, hb⟩
        have := k H2 (e.trans e2)
        rw [hst] at this
        exact this
      · refine ⟨_, _, rfl, e.trans e2, ?_⟩
        rw [tk_more ha]
        unfold standsB at hf ⊢
        rw [List.any_append, hf, Bool.false_or, List.any_cons, hb]
        rfl
    · obtain ⟨y2, y3, rfl, e, hf⟩ := h
      rw [hvl, List.take_length] at hf
      have := k H' e
      rw [hf] at this
      exact this
theorem ok_l_more (T : Txt K mg A) : FnOk P w K mg base CX0 2 A.l_more A.l_more_fd ["_law_load", "_law_origin", "_law_target"] spMoreL := by
  refine T.F_l_more.ok sc_l_more (fun vs H Q E h => ?_) (fun cdv A' outer s H vs Q E hr h => ?_)
  · obtain ⟨B, v, l, o, t, _, rfl, _⟩ := h
    rfl
  · obtain ⟨B, v, l, o, t, eB, rfl, hl, hs, sm, k⟩ := h
    refine ⟨_, (pss_cons (ps_setLc (i := 3) (own := [("_law_row", 4)]) rfl sc_l_more.nd rfl rfl (sw_true rfl rfl rfl (by decide +kernel)) (show PI _ _ _ (iList K _) from pi_list (pv 0)) (blkOk_by (N := n_l_more) (sc := defScope s_l_more) (by decide +kernel)) (fun _ _ _ _ _ => (pg_name (i := 4) sc_l_more.nd rfl (Or.inl rfl))) (fun _ _ _ _ _ => (pts_one (show PT _ _ (tTest (tOp (rNeD K) _ _)) from pt_cmpR (op_neD hr.units) (show PE _ _ (tSl (rSlT K) _ _ _) from pe_slice sl_tup (pv 4) po_none (po_some pe_int)) (pe_tup (pa_cons (pv 1) (pa_cons (pv 2) pa_nil))) (nomark _)))) (fun _ _ _ _ _ => (pv 4))) (pss_one (ps_ret (show PE _ _ (tCB (rSortU K 3 2048) _) from (pe_callB (id := "sorted") (cr_sortT (d := 3) (B := 2048) (by decide)) (by rfl) T.n_sorted (by decide +kernel) (pa_cons (pe_op op_cat (pv 3) (pe_lst (pa_cons (pe_tup (pa_cons (pv 1) (pa_cons (pv 2) (pa_cons (pe_op op_add pe_int (pe_call (ok_l_many T) (hr.mono (by decide)) (by rfl) T.m_l_many T.F_l_many.kp T.b_l_many .nil pass0 (pa_cons (pv 0) (pa_cons (pv 1) (pa_cons (pv 2) pa_nil))))) pa_nil)))) pa_nil))) pa_nil)))))), ?_⟩
    obtain ⟨p, vs, rfl, hx, hp⟩ := id hl
    refine p_asg (EvP.mono eB (lcG (S := EntR) moE moE (src_list (K := K) (Evl.ev_var rfl) (Evl.sq_of hx)) hp (by omega) (fun e x => [some (.ref p), some (vI o), some (vI t), none, some x]) (fun _ _ => rfl) (fun _ _ _ _ _ _ _ _ q => q) (fun e => !(decide (e.1 = o) && decide (e.2.1 = t))) (fun e x _ re => ?_) (fun e => e) (fun e x _ re _ => ?_))) fun v2 H2 e2 hv => ?_
    · obtain ⟨t', rfl, h⟩ := re
      refine Evl.et_test (fun H1 e1 Q q => ?_)
      refine ⟨_, rfl, _, rfl, t', _, rfl, Evl.st_of (e1 _ _ h), (by show ¬(HT.sIx 3 0 none = 0 ∧ HT.sIx 3 3 (some 2) = 3); decide), fun c hc => ?_⟩
      have e2 := Ex.new (o := .tup (cutV [vI e.1, vI e.2.1, vI e.2.2] none (some 2))) hc
      refine Evl.eu_tup (vs := [vI o, vI t]) (vb2 rfl rfl) (by show 2 ≤ 100000; decide) _ (Ex.refl _) _ fun d H3 fd e3 hd => ?_
      exact rv_neT2 (K := K) (H := H3) (a := e.1) (b := e.2.1) (e3 _ _ upd_same) hd H3 (Ex.refl _) Q fun H4 e4 => q H4 ((e2.trans e3).trans e4)
    · exact (evp_ev (Evl.ev_var rfl)).imp fun z Ha Hb ea eb h => by
        cases h
        exact newR_old re (ea.trans eb)
    rw [List.map_id'] at hv
    obtain ⟨q, G, rfl, fq, mG, bG, hq⟩ := NewLst_all moE (eB.trans e2) hv
    show tRet _ _ ([some (.ref p), some (vI o), some (vI t), some (.ref q), none]) H2
    have lo : (others l o t).length ≤ l.length := (others_sub l o t).length_le
    refine p_ret (EvP.mono mG.ex (evp_sort3 (K := K) (l := others l o t ++ [(o, t, carts l (some o) (some t) + 1)]) (evp_catL moE (Evl.ev_var rfl) hq (evp_lst1 moE (evp_tup3 (Evl.ev_var rfl) (Evl.ev_var rfl) (Evl.ev_is (Evl.ev_op Evl.ev_c (ev_many (o := some o) (t := some t) (vb3 rfl rfl rfl) (moE.lst _ _ _ _ bG hl) (by omega)) rv_I0P) (by show V.int _ = V.int _; congr 1; omega)))) (by simp; omega)) (by simp; omega) sm)) fun z H3 e3 hz => ?_
    exact k z H3 (e2.trans e3) (NewLst_chain mG e2 hz)
end
end K26

set_option Elab.async false
set_option linter.all false
set_option maxRecDepth 100000
set_option maxHeartbeats 4000000
namespace Pr
open PySem PySem.Spec PyProof.Rows L2 TM Ep Nw
open Evl (Ex Ev EvT EvA EvL EvU EvO)
theorem NewLst_chainB {β : Type} {S : Rep β} {B H0 H2 H3 G : Hp} {p : Addr} {l : List β} {v : V} (m : Mk B H0 H2 G) (ex : ExB p H0 H2) (hp : PotAt H2 p) (h : NewLst S G l v H2 H3) : NewLst S B l v H0 H3 := by
  obtain ⟨q, vs, Hn, r, f, mk, k, hq⟩ := h
  have back : ∀ {b}, H2 b = none → H0 b = none := fun {b} z => ex.free z fun y => by
    obtain ⟨_, _, w, _⟩ := hp
    rw [y, w] at z
    cases z
  refine ⟨q, vs, Hn, r, back f, fun b o z => ?_, k, hq⟩
  obtain ⟨a, c⟩ := mk b o z
  exact ⟨a, c.elim (fun c => (m b o c).2) fun c => .inr (back c)⟩
end Pr
namespace K26
open PySem PySem.Spec PyProof.Rows L2 TM Pr Ep Nw
open Evl (Ex Ev EvT EvA EvL EvU EvO)
section
variable {P : Program} {w : World} {K : PySem.W.Frag} {mg : Str → Option Value} {base : Heap} {A : Adr}
end
end K26
set_option Elab.async false
set_option linter.all false
set_option maxRecDepth 100000
set_option maxHeartbeats 4000000
/-! sorted of a tuple of ints -/
namespace G9
open PySem PySem.Spec PyProof.Rows L2 SrtO
section
variable {prog : Program} {w : World} {A : Around} {E : Value → Shared → Prop} {s : Shared}
abbrev gath (s : Shared) (vs : List Value) : Heap := (s.heap.push (seqObj "list" #[] 0)).update s.heap.objs.size (Obj.mapSeq (· ++ vs.toArray))
/-- a tuple is gathered into a new list -/
theorem gather_tup {t : Addr} {vs : List Value} {Q : List Value → Shared → Prop} (ht : IsTup s.heap t vs.toArray) (small : vs.length ≤ sizeLine) (q : Q vs { s with heap := gath s vs }) :
    wpAny (model prog w) A (collect (.ref t)) Q E s := by
  obtain ⟨o, at0, cls, n, dat⟩ := id ht
  have at1 : (s.heap.push (seqObj "list" #[] 0)).get? t = some o := Heap.get?_push_of_some _ at0
  have new1 : (s.heap.push (seqObj "list" #[] 0)).get? s.heap.objs.size = some (seqObj "list" #[] 0) := Heap.get?_push_size _ rfl
  have size1 : ((#[] : Array Value) ++ vs.toArray).size ≤ sizeLine + 1 := by
    simp only [Array.size_append, List.size_toArray, List.length_nil]
    omega
  unfold collect
  refine wpAny_bind (wpAny_runValue (codeAny_builtin entry_proto_collect' ?_))
  change wpAny _ _ (do again (.builtin "list.__iadd__" ⟨[← newList [], .ref t], []⟩)) _ _ s
  refine wpAny_bind (wpAny_newList (wpAny_pure ⟨Code.quiet_builtin _ (by decide +kernel), ?_⟩))
  refine codeAny_builtin entry_list_iadd' ?_
  change wpAny _ _ (Builtin.List.listExtendWith (.ref s.heap.objs.size) (.ref t) (.ref s.heap.objs.size)) _ _ { s with heap := s.heap.push (seqObj "list" #[] 0) }
  unfold Builtin.List.listExtendWith
  refine wpAny_bind (wpAny_typeOf (T := "tuple") ⟨o, at1, cls⟩ ?_)
  rw [if_pos (by rw [show (Value.type "tuple" == Value.type "tuple") = true from rfl, Bool.or_true])]
  refine wpAny_bind (listItems_at at1 dat (wpAny_bind (listItems_at (xs := #[]) (n := 0) new1 rfl ?_)))
  rw [if_neg (by simp)]
  refine wpAny_bind (listUpdate_at (xs := #[]) (n := 0) new1 rfl (wpAny_pure ?_) (Nat.zero_le _) size1)
  refine wpAny_bind (wpAny_load (get?_update_seq new1 _) ?_)
  change wpAny _ _ (pure ((#[] : Array Value) ++ vs.toArray).toList) Q E _
  have same : ((#[] : Array Value) ++ vs.toArray).toList = vs := by simp
  rw [same]
  exact wpAny_pure q
theorem sorted_tup {t : Addr} {vs : List Value} {lt : Value → Value → Bool} {Q : Value → Shared → Prop} (O : Swo lt) (ht : IsTup s.heap t vs.toArray) (small : vs.length ≤ sizeLine)
    (can : 2 ≤ vs.length → ∀ (h₁ : Heap) (a : Addr), SortableO prog w A.in1.in1 { s with heap := h₁ } a vs lt)
    (q : ∀ out : List Value, Srtd lt out → Stb lt out vs → Q (.ref (s.heap.objs.size + 1)) { s with heap := sortedAll s.heap vs out.toArray }) :
    wpAny (model prog w) A (call (.builtin "sorted") [.ref t]) Q E s := by
  have sz : (gath s vs).objs.size = s.heap.objs.size + 1 := by rw [Heap.size_update, size_push']
  have at2 : ((gath s vs).push (seqObj "list" vs.toArray 0)).get? (s.heap.objs.size + 1) = some (seqObj "list" vs.toArray 0) := by
    have := Heap.get?_push_size (gath s vs) (o := seqObj "list" vs.toArray 0) rfl
    rw [sz] at this
    exact this
  refine Calls.call_function_entry kind_sorted plain_sorted entry_sorted (args_sorted1 _) ?_
  unfold Builtin.«sorted»
  refine wpAny_bind (m := checkCount "sorted" 1 1 _) (wpAny_pure (wpAny_bind (gather_tup ht small (wpAny_bind (wpAny_newList ?_ small)))))
  change wpAny _ _ _ _ _ { s with heap := (gath s vs).push (seqObj "list" vs.toArray 0) }
  rw [sz]
  refine wpAny_bind (wpAny_holding (wpAny_call_entry slot_list_sort ⟨_, at2, rfl⟩ entry_list_sort ?_ (args_list_sort _)))
  refine list_sort_ord O at2 small (fun two => can two _ _) fun out one two => ⟨_, rfl, wpAny_pure ⟨_, rfl, q out one two⟩⟩
end
/-- sorted(xs), ints, xs a list or a tuple -/
def rSorted2 (K : PySem.W.Frag) : List V → Hp → VK → Prop := fun vs H Q => rSortedI K vs H Q ∨ ∃ (t : Addr) (ns : List Int), vs = [V.ref t] ∧ SqT K H t (ns.map V.int) ∧
  ∀ (to : List Int) (p : Addr), to.Perm ns → to.Pairwise (· ≤ ·) → H p = none → Q (.ref p) (upd H p (.lst (to.map V.int)))
section
variable {X : Cx}
theorem cr_sortedTI : CallR X (.builtin "sorted") (fun vs H Q => ∃ (t : Addr) (ns : List Int), vs = [V.ref t] ∧ SqT X.K H t (ns.map V.int) ∧
    ∀ (to : List Int) (p : Addr), to.Perm ns → to.Pairwise (· ≤ ·) → H p = none → Q (.ref p) (upd H p (.lst (to.map V.int)))) := by
  intro pins s σ H vs us Q I r h
  obtain ⟨t, ns, rfl, ht, q⟩ := h
  obtain ⟨items, told, tup, small⟩ := I.tuple ht
  rw [Vals.ref1 r]
  have isI := told.ints
  refine sorted_tup swo_int tup (by rw [← told.length]; exact small) (fun two _ _ => ints_sortable isI two) fun out one two => ?_
  obtain ⟨are, perm, up⟩ := ints_out isI one two
  obtain ⟨epoch, here⟩ := sortedAll_at s.heap items out.toArray
  have fits : ((out.map iv).map V.int).length ≤ sizeLine := by
    rw [List.length_map] at small ⊢
    rw [perm.length_eq]
    exact small
  refine ⟨.ref _, upd H (s.heap.objs.size + 1) (.lst ((out.map iv).map V.int)), ?_, rfl, q _ _ perm up (I.hok.fresh (Nat.le_succ _))⟩
  exact I.laid (t' := s.toks) (fun _ _ => sortedAll_old) (Nat.le_succ _) ⟨fits, out, epoch, vals_of_ints are, here⟩
theorem cr_sorted2 : CallR X (.builtin "sorted") (rSorted2 X.K) := cr_sortedI.or cr_sortedTI
end
end G9

set_option Elab.async false
set_option linter.all false
set_option maxRecDepth 100000
set_option maxHeartbeats 4000000
namespace Pr
open PySem PySem.Spec PyProof.Rows L2 TM Ep
open Evl (Ex Ev EvT EvA EvL EvO)
theorem ev_sort2 {K : PySem.W.Frag} {σ : L2.St} {H : Hp} {te : TE} {l : List Nat} {a : Addr} (h : Ev te σ H (.ref a)) (ha : LT H a (vIs l)) : EvP (tCB (G9.rSorted2 K) (tCons te tNil)) σ H (NewL (vIs (isort l))) := fun H1 e Q q =>
  h H1 e _ fun H2 e2 => by
    have ha2 := ha.ex (e.trans e2)
    have go : ∀ (to : List Int) (p : Addr), to.Perm (l.map fun (n : Nat) => (n : Int)) → to.Pairwise (· ≤ ·) → H2 p = none → Q (.ref p) (upd H2 p (.lst (to.map V.int))) := fun to p perm srt hp => by
      have := int_sorted perm srt
      subst this
      rw [← vIs_int]
      exact q _ _ (e2.trans (Ex.new hp)) ⟨p, rfl, Evl.fresh_back e2 hp, upd_same⟩
    rcases ha2 with ha2 | ha2
    · exact .inl ⟨a, _, rfl, by rw [← vIs_int]; exact Evl.sq_of ha2, go⟩
    · exact .inr ⟨a, _, rfl, by rw [← vIs_int]; exact Evl.st_of ha2, go⟩
theorem va2 {σ : L2.St} {H : Hp} {i j : Nat} {a b : V} (h1 : σ[i]? = some (some a)) (h2 : σ[j]? = some (some b)) : EvA (tCons (tVar i) (tCons (tVar j) tNil)) σ H [a, b] := Evl.ea_cons (Evl.ev_var h1) (Evl.ea_cons (Evl.ev_var h2) Evl.ea_nil)
end Pr
namespace K26
open PySem PySem.Spec PyProof.Rows L2 TM Pr Ep
open Evl (Ex Ev EvT EvA EvL EvO)
section
variable {P : Program} {w : World} {K : PySem.W.Frag} {mg : Str → Option Value} {base : Heap} {A : Adr}
end
end K26
set_option Elab.async false
set_option linter.all false
set_option maxRecDepth 100000
set_option maxHeartbeats 4000000
/-! books and loads as data, written -/
namespace Pr
open PySem PySem.Spec PyProof.Rows L2 TM Ep Nw
open Evl (Ex Ev EvT EvA EvL EvU EvO)
def DpX (K : PySem.W.Frag) (H : Hp) (v : V) (d : PyData) : Prop := ∀ H', Ex H H' → Dp K H' v d
def DpXA (K : PySem.W.Frag) (H : Hp) (vs : List V) (ds : List PyData) : Prop := ∀ H', Ex H H' → DpAll K H' vs ds
structure Shw (d : PyData) (n w : Nat) : Prop where
  sh : d.showable = true
  hd : d.hasDict = false
  dp : d.depth ≤ n
  wt : d.weight ≤ w
  lv : d.leavesShort 8 = true
structure ShwA (ds : List PyData) (n w : Nat) : Prop where
  sh : PyData.showableAll ds = true
  hd : PyData.hasDictAll ds = false
  dp : PyData.depthAll ds ≤ n
  wt : PyData.weightAll ds ≤ w
  lv : PyData.leavesShortAll 8 ds = true
theorem Shw.up {d : PyData} {n w n' w' : Nat} (h : Shw d n w) (a : n ≤ n') (b : w ≤ w') : Shw d n' w' := ⟨h.sh, h.hd, Nat.le_trans h.dp a, Nat.le_trans h.wt b, h.lv⟩
theorem ShwA.up {d : List PyData} {n w n' w' : Nat} (h : ShwA d n w) (a : n ≤ n') (b : w ≤ w') : ShwA d n' w' := ⟨h.sh, h.hd, Nat.le_trans h.dp a, Nat.le_trans h.wt b, h.lv⟩
theorem shwA_nil {n : Nat} : ShwA [] n 0 := ⟨by simp [PyData.showableAll], by simp [PyData.hasDictAll], by simp [PyData.depthAll], by simp [PyData.weightAll], by simp [PyData.leavesShortAll]⟩
theorem shwA_cons {d : PyData} {ds : List PyData} {n w w' : Nat} (a : Shw d n w) (b : ShwA ds n w') : ShwA (d :: ds) n (w + 1 + w') := by
  obtain ⟨a1, a2, a3, a4, a5⟩ := a
  obtain ⟨b1, b2, b3, b4, b5⟩ := b
  exact ⟨by simp only [PyData.showableAll, a1, b1, Bool.and_self], by simp only [PyData.hasDictAll, a2, b2, Bool.or_self], by simp only [PyData.depthAll]; omega, by simp only [PyData.weightAll]; omega, by simp only [PyData.leavesShortAll, a5, b5, Bool.and_self]⟩
theorem shw_list {ds : List PyData} {n w : Nat} (a : ShwA ds n w) : Shw (.list ds) (n + 1) w := by
  obtain ⟨a1, a2, a3, a4, a5⟩ := a
  exact ⟨by simp only [PyData.showable, a1], by simp only [PyData.hasDict, a2], by simp only [PyData.depth]; omega, by simp only [PyData.weight]; omega, by simp only [PyData.leavesShort, a5]⟩
theorem shw_tup {ds : List PyData} {n w : Nat} (a : ShwA ds n w) : Shw (.tuple ds) (n + 1) w := by
  obtain ⟨a1, a2, a3, a4, a5⟩ := a
  exact ⟨by simp only [PyData.showable, a1], by simp only [PyData.hasDict, a2], by simp only [PyData.depth]; omega, by simp only [PyData.weight]; omega, by simp only [PyData.leavesShort, a5]⟩
theorem shw_nat {a n : Nat} (h : a < 1024) : Shw (.int (a : Int)) n 10 := by
  have h1 := showable_Ns [a] (fun x hx => by rw [List.mem_singleton.mp hx]; exact h)
  have h2 := weight_Ns [a] (fun x hx => by rw [List.mem_singleton.mp hx]; exact h)
  have h3 := leaves_Ns [a] (fun x hx => by rw [List.mem_singleton.mp hx]; exact h)
  unfold dNs at h1 h2 h3
  simp only [List.map_cons, List.map_nil, PyData.showableAll, PyData.weightAll, PyData.leavesShortAll, Bool.and_true, List.length_singleton] at h1 h2 h3
  exact ⟨h1, by simp only [PyData.hasDict], by simp only [PyData.depth]; omega, by omega, h3⟩
theorem shw_bl {b : Bool} {n : Nat} : Shw (.bool b) n 0 := ⟨by simp only [PyData.showable], by simp only [PyData.hasDict], by simp only [PyData.depth]; omega, by simp only [PyData.weight]; omega, by simp only [PyData.leavesShort]⟩
theorem shw_non {n : Nat} : Shw .none n 0 := ⟨by simp only [PyData.showable], by simp only [PyData.hasDict], by simp only [PyData.depth]; omega, by simp only [PyData.weight]; omega, by simp only [PyData.leavesShort]⟩
theorem shwA_all {n w : Nat} : ∀ {ds : List PyData}, (∀ d ∈ ds, Shw d n w) → ShwA ds n (ds.length * (w + 1))
  | [], _ => shwA_nil.up (Nat.le_refl _) (Nat.zero_le _)
  | d :: ds, h => (shwA_cons (h d List.mem_cons_self) (shwA_all fun x hx => h x (List.mem_cons_of_mem _ hx))).up (Nat.le_refl _) (by rw [List.length_cons, Nat.succ_mul]; omega)
section
variable {K : PySem.W.Frag} {σ : L2.St} {H H' : Hp} {te ta tb : TE} {ts : TA} {v x y : V} {vs : List V} {d : PyData} {ds : List PyData} {p : Addr}
theorem DpX.ex (e : Ex H H') (h : DpX K H v d) : DpX K H' v d := fun H2 e2 => h H2 (e.trans e2)
theorem DpXA.ex (e : Ex H H') (h : DpXA K H vs ds) : DpXA K H' vs ds := fun H2 e2 => h H2 (e.trans e2)
theorem dpx_int {n : Nat} : DpX K H (vI n) (.int (n : Int)) := fun _ _ => .int _
theorem dpx_bl {b : Bool} : DpX K H (.bl b) (.bool b) := fun _ _ => .bl b
theorem dpx_non : DpX K H .non .none := fun _ _ => .non
theorem dpxA_nil : DpXA K H [] [] := fun _ _ => .nil
theorem dpxA_cons (a : DpX K H v d) (b : DpXA K H vs ds) : DpXA K H (v :: vs) (d :: ds) := fun H' e => .cons (a H' e) (b H' e)
theorem dpx_lst (h : H p = some (.lst vs)) (k : DpXA K H vs ds) : DpX K H (.ref p) (.list ds) := fun H' e => .lst (Evl.sq_of (e _ _ h)) (k H' e)
theorem dpx_tup (h : H p = some (.tup vs)) (k : DpXA K H vs ds) : DpX K H (.ref p) (.tuple ds) := fun H' e => .tup (Evl.st_of (e _ _ h)) (k H' e)
theorem dpx_o {o : Option Nat} (h : ∀ a, o = some a → a < 1024) {n : Nat} : ∃ d, DpX K H (oV o) d ∧ Shw d n 10 := by
  cases o with
  | none => exact ⟨.none, dpx_non, shw_non.up (Nat.le_refl _) (Nat.zero_le _)⟩
  | some a => exact ⟨.int (a : Int), dpx_int, shw_nat (h a rfl)⟩
theorem dpx_all {β : Type} {S : Rep β} {n w : Nat} {l : List β} (hp : Paired (S H) vs l) (hS : ∀ v b, b ∈ l → S H v b → ∃ d, DpX K H v d ∧ Shw d n w) : ∃ ds, DpXA K H vs ds ∧ ShwA ds n (l.length * (w + 1)) := by
  induction hp with
  | nil => exact ⟨[], dpxA_nil, shwA_nil.up (Nat.le_refl _) (Nat.zero_le _)⟩
  | cons r _ ih =>
    obtain ⟨d, h1, h2⟩ := hS _ _ List.mem_cons_self r
    obtain ⟨ds, h3, h4⟩ := ih fun v b hb => hS v b (List.mem_cons_of_mem _ hb)
    exact ⟨d :: ds, dpxA_cons h1 h3, (shwA_cons h2 h4).up (Nat.le_refl _) (by rw [List.length_cons, Nat.succ_mul]; omega)⟩
theorem dpx_seq {β : Type} {S : Rep β} {n w : Nat} {l : List β} (h : SeqR S H v l) (hS : ∀ v b, b ∈ l → S H v b → ∃ d, DpX K H v d ∧ Shw d n w) : ∃ d, DpX K H v d ∧ Shw d (n + 1) (l.length * (w + 1)) := by
  obtain ⟨p, vs, rfl, k, hp⟩ := h
  obtain ⟨ds, h1, h2⟩ := dpx_all hp hS
  rcases k with k | k
  · exact ⟨_, dpx_lst k h1, shw_list h2⟩
  · exact ⟨_, dpx_tup k h1, shw_tup h2⟩
theorem dpx_bd {b : Bd} {N : List Nat} (sN : ∀ x ∈ N, x < 1024) (g : GoodB N b) (h : BdR H v b) : ∃ d, DpX K H v d ∧ Shw d 1 33 := by
  obtain ⟨t, rfl, ht⟩ := h
  obtain ⟨d1, a1, b1⟩ := dpx_o (K := K) (H := H) (o := b.1) (n := 0) fun a e => sN a (g.or_ a e)
  obtain ⟨d2, a2, b2⟩ := dpx_o (K := K) (H := H) (o := b.2.1) (n := 0) fun a e => sN a (g.tg a e)
  have := g.most
  exact ⟨_, dpx_tup ht (dpxA_cons a1 (dpxA_cons a2 (dpxA_cons dpx_int dpxA_nil))), (shw_tup (shwA_cons b1 (shwA_cons b2 (shwA_cons (shw_nat (by omega)) shwA_nil)))).up (Nat.le_refl _) (by omega)⟩
theorem dpx_alt {a : Alt} {N : List Nat} (sN : ∀ x ∈ N, x < 1024) (g : GoodA N a) (h : AltR H v a) : ∃ d, DpX K H v d ∧ Shw d 3 216 := by
  obtain ⟨t, w, rfl, ht, hw⟩ := h
  obtain ⟨d, h1, h2⟩ := dpx_seq (K := K) hw fun v b hb r => dpx_bd sN (g.bs b hb) r
  have := g.most
  have hf := g.few
  have : a.2.length * (33 + 1) ≤ 6 * 34 := Nat.mul_le_mul hf (Nat.le_refl _)
  exact ⟨_, dpx_tup ht (dpxA_cons dpx_int (dpxA_cons h1 dpxA_nil)), (shw_tup (shwA_cons (shw_nat (by omega)) (shwA_cons h2 shwA_nil))).up (Nat.le_refl _) (by omega)⟩
theorem dpx_bk {B : Bk} {N : List Nat} (sN : ∀ x ∈ N, x < 1024) (g : GoodBk N B) (h : BkR H v B) : ∃ d, DpX K H v d ∧ Shw d 4 900 := by
  obtain ⟨d, h1, h2⟩ := dpx_seq (K := K) h fun v a ha r => dpx_alt sN (g.as_ a ha) r
  have hf := g.most
  have : B.length * (216 + 1) ≤ 4 * 217 := Nat.mul_le_mul hf (Nat.le_refl _)
  exact ⟨d, h1, h2.up (Nat.le_refl _) (by omega)⟩
/-! loads -/
def dE (e : Ent) : PyData := .tuple [.int (e.1 : Int), .int (e.2.1 : Int), .int (e.2.2 : Int)]
def dEs (l : Ld) : List PyData := l.map dE
def Sml (l : Ld) : Prop := ∀ e ∈ l, e.1 < 1024 ∧ e.2.1 < 1024 ∧ e.2.2 < 1024
theorem shw_E {e : Ent} (h : e.1 < 1024 ∧ e.2.1 < 1024 ∧ e.2.2 < 1024) : Shw (dE e) 1 33 := (shw_tup (shwA_cons (shw_nat h.1) (shwA_cons (shw_nat h.2.1) (shwA_cons (shw_nat h.2.2) shwA_nil)))).up (Nat.le_refl _) (by omega)
theorem dpx_E {e : Ent} (h : EntR H v e) : DpX K H v (dE e) := by
  obtain ⟨t, rfl, ht⟩ := h
  exact dpx_tup ht (dpxA_cons dpx_int (dpxA_cons dpx_int (dpxA_cons dpx_int dpxA_nil)))
theorem dpx_ents {l : Ld} (h : Paired (EntR H) vs l) : DpXA K H vs (dEs l) := by
  induction h with
  | nil => exact dpxA_nil
  | cons r _ ih => exact dpxA_cons (dpx_E r) ih
theorem dpx_L {l : Ld} (h : LstOf EntR H v l) : DpX K H v (.list (dEs l)) := by
  obtain ⟨p, vs, rfl, k, hp⟩ := h
  exact dpx_lst k (dpx_ents hp)
theorem shw_Es {l : Ld} (h : Sml l) : ShwA (dEs l) 1 (l.length * 34) := by
  have := shwA_all (n := 1) (w := 33) (ds := dEs l) fun d hd => by
    obtain ⟨e, he, r⟩ := List.mem_map.mp hd
    rw [← r]
    exact shw_E (h e he)
  unfold dEs at this
  rw [List.length_map] at this
  exact this
theorem shw_L {l : Ld} (h : Sml l) : Shw (.list (dEs l)) 2 (l.length * 34) := shw_list (shw_Es h)
theorem dpx_ld {l : Ld} (s : Sml l) (h : LdR H v l) : ∃ d, DpX K H v d ∧ Shw d 2 (l.length * 34) := dpx_seq h fun v e he r => ⟨dE e, dpx_E r, shw_E (s e he)⟩
theorem sml_of {N : List Nat} {l : Ld} (g : GoodL N l) (sN : ∀ x ∈ N, x < 1024) (k : carts l none none < 1000) : Sml l := fun e he => by
  obtain ⟨a, b, _⟩ := mem_pairs.mp (g.pr e he)
  have := sN _ a
  have := sN _ b
  have := one_carts he
  exact ⟨by omega, by omega, by omega⟩
theorem canLay_Es : ∀ l : Ld, PyData.canLayAll0 (dEs l) = true
  | [] => by simp [dEs, PyData.canLayAll0]
  | a :: l => by
    have ih := canLay_Es l
    unfold dEs at ih ⊢
    simp [dE, PyData.canLayAll0, PyData.canLay0, ih]
theorem depth_Es : ∀ l : Ld, PyData.depthAll (dEs l) ≤ 1
  | [] => by simp [dEs, PyData.depthAll]
  | a :: l => by
    have ih := depth_Es l
    unfold dEs at ih ⊢
    simp only [List.map_cons, PyData.depthAll, dE, PyData.depth]
    omega
theorem shaped_L (l : Ld) : SeqAt.shaped (.list (dEs l)) = true := by
  have h := depth_Es l
  have h2 := canLay_Es l
  unfold SeqAt.shaped
  simp only [PyData.canLay0, PyData.depth, h2, Bool.true_and]
  exact decide_eq_true (by omega)
theorem eqv_nat (x y : Nat) : PyData.eqv (.int (x : Int)) (.int (y : Int)) = decide (x = y) := by
  simp only [PyData.eqv]
  by_cases h : x = y
  · subst h
    simp
  · rw [decide_eq_false h, beq_eq_false_iff_ne]
    omega
theorem eqv_Es_refl : ∀ l : Ld, PyData.eqvAll (dEs l) (dEs l) = true
  | [] => by simp [dEs, PyData.eqvAll]
  | a :: l => by
    have ih := eqv_Es_refl l
    unfold dEs at ih ⊢
    simp only [List.map_cons, PyData.eqvAll, dE, PyData.eqv, ih]
    simp
theorem eqv_L_refl (l : Ld) : PyData.eqv (.list (dEs l)) (.list (dEs l)) = true := by
  simp only [PyData.eqv]
  exact eqv_Es_refl l
theorem eqv_L_nil (l : Ld) : PyData.eqv (.list (dEs l)) (.list []) = l.isEmpty := by
  cases l <;> simp [dEs, PyData.eqv, PyData.eqvAll]
theorem rv_neL {l m : Ld} {u : V} (h1 : DpX K H v (.list (dEs l))) (h2 : DpX K H u (.list (dEs m))) : Evl.RV (rNeD K) v u H (.bl (!(PyData.eqv (.list (dEs l)) (.list (dEs m))))) := fun H1 e Q k => ⟨_, _, h1 H1 e, h2 H1 e, shaped_L _, shaped_L _, k H1 (Ex.refl _)⟩
/-! written -/
theorem rRepr_at {n w : Nat} {Q : VK} (h : DpX K H (.ref p) d) (s : Shw d n w) (hn : n ≤ 60) (hw : w ≤ 1000000) (q : Q (.str d.shown) H) : G8.rRepr K [.ref p] H Q :=
  ⟨p, d, rfl, h H (Ex.refl _), s.sh, s.hd, Nat.le_trans s.dp hn, PyData.shown_fits (B := 8) (by decide) (by decide) s.lv (Nat.le_trans s.wt (Nat.le_trans hw (by decide))), q⟩
theorem ev_reprL {n w : Nat} (h : EvA ts σ H vs) (hl : vs.length ≤ 1000) (hd : DpXA K H vs ds) (s : ShwA ds n w) (hn : n ≤ 50) (hw : w ≤ 1000000) : Ev (tCB (G8.rRepr K) (tCons (tLst ts) tNil)) σ H (.str (PyData.list ds).shown) := fun H1 e Q q =>
  (evp_lst h (by omega)) H1 e (fun v H2 => G8.rRepr K [v] H2 Q) fun v H2 e2 hv => by
    obtain ⟨p, rfl, _, k⟩ := hv
    exact rRepr_at (dpx_lst k (hd.ex (e.trans e2))) (shw_list s) (by omega) hw (q H2 e2)
theorem ev_reprX {P : VP} {n w : Nat} (h : EvP te σ H P) (hP : ∀ v H1 H2, Ex H H1 → Ex H1 H2 → P v H1 H2 → ∃ a, v = .ref a ∧ DpX K H2 v d) (s : Shw d n w) (hn : n ≤ 50) (hw : w ≤ 1000000) : Ev (tCB (G8.rRepr K) (tCons te tNil)) σ H (.str d.shown) := fun H1 e Q q =>
  h H1 e (fun v H2 => G8.rRepr K [v] H2 Q) fun v H2 e2 hv => by
    obtain ⟨p, rfl, k⟩ := hP v H1 H2 e e2 hv
    exact rRepr_at k s (by omega) hw (q H2 e2)
theorem p_par2 {D : Ends} {tz : TS} {i j : Nat} (ha : Ev ta σ H x) (hb : Ev tb σ H y) (k : ∀ H', Ex H H' → tz D ((σ.set i (some x)).set j (some y)) H') : tSeq (tPar i j (tCons ta (tCons tb tNil))) tz D σ H := by
  unfold tSeq tPar tCons
  exact ha H (Ex.refl H) _ fun H1 e1 => hb H1 e1 _ fun H2 e2 => ⟨_, _, rfl, k H2 (e1.trans e2)⟩
end
end Pr
set_option Elab.async false
set_option linter.all false
set_option maxRecDepth 100000
set_option maxHeartbeats 4000000
/-! sorted(xs) of data of one shape: a new list, in the order of Python; R says what an item stands for, enc what it reads as -/
namespace SD
open PySem PySem.Spec PyProof.Rows L2 PySem.W
def rSortD (K : PySem.W.Frag) : List V → Hp → VK → Prop := fun vs H Q => ∃ (β : Type) (R : V → β → Prop) (enc : β → PyData) (a : Addr) (xs : List V) (bs : List β), vs = [V.ref a] ∧ SqL K H a xs ∧
  Paired R xs bs ∧ (∀ x b, R x b → Dp K H x (enc b)) ∧ AllAlike (bs.map enc) ∧ Sortable (bs.map enc) ∧ (∀ b ∈ bs, (enc b).depth ≤ 50) ∧
  ∀ ys p, Paired R ys (bs.mergeSort (dataLe false enc)) → H p = none → Q (.ref p) (upd H p (.lst ys))
def Rv {β : Type} (R : V → β → Prop) (v : Value) (b : β) : Prop := ∃ x, RelV x v ∧ R x b
theorem each_of {β : Type} {R : V → β → Prop} : ∀ {xs : List V} {us : List Value} {bs : List β}, Vals xs us → Paired R xs bs → EachIs (Rv R) us bs
  | _, _, _, .nil, .nil => .nil
  | _, _, _, .cons r t, .cons s u => .cons ⟨_, r, s⟩ (each_of t u)
theorem each_back {β : Type} {R : V → β → Prop} : ∀ {us : List Value} {bs : List β}, EachIs (Rv R) us bs → ∃ xs, Vals xs us ∧ Paired R xs bs
  | _, _, .nil => ⟨[], .nil, .nil⟩
  | _, _, .cons ⟨x, r, s⟩ t => by
    obtain ⟨xs, h1, h2⟩ := each_back t
    exact ⟨x :: xs, .cons r h1, .cons s h2⟩
section
variable {X : Cx}
theorem each_reads {β : Type} {R : V → β → Prop} {pins : List (Addr × Obj)} {σ : L2.St} {H : Hp} {s : Shared} (I : Inv X pins σ H s) (enc : β → PyData) (h : ∀ x b, R x b → Dp X.K H x (enc b)) : ∀ {us : List Value} {bs : List β}, EachIs (Rv R) us bs → EachIs (fun v b => ∃ as, Reads s.heap v (enc b) as) us bs
  | _, _, .nil => .nil
  | _, _, .cons ⟨x, r, q⟩ t => .cons (Dp.reads I _ _ _ (h _ _ q) r) (each_reads I enc h t)
theorem cr_sortD (hu : X.A.units + 64 < cLine) : CallR X (.builtin "sorted") (rSortD X.K) := by
  intro pins s σ H vs us Q I r h
  obtain ⟨β, R, enc, a, xs, bs, rfl, hs, hp, hd, hal, hk, hdp, q⟩ := h
  obtain ⟨its, rv, hl, hz⟩ := I.list hs
  rw [Vals.ref1 r]
  have e1 := each_of rv hp
  have lb : xs.length = bs.length := PySem.Paired.length hp
  refine sorted_data (R := Rv R) (bs := bs) (enc := enc) (vs := its) hl.isList e1 (each_reads I enc hd e1) hal hk (by rw [← lb]; exact hz) (fun x m => ?_) fun out ho he => ?_
  · have := hdp x m
    omega
  · have kp : ∀ b o, s.heap.get? b = some o → (sortedAll s.heap its out.toArray).get? b = some o := fun b o e => sortedAll_old e
    have sz : s.heap.objs.size ≤ s.heap.objs.size + 1 := Nat.le_succ _
    obtain ⟨n, hn⟩ := sortedAll_at s.heap its out.toArray
    obtain ⟨ys, rm, pm⟩ := each_back he
    have ly : ys.length = xs.length := by
      rw [PySem.Paired.length pm, List.length_mergeSort, lb]
    refine ⟨.ref _, upd H _ (.lst ys), I.laid (t' := s.toks) kp sz ⟨?_, out, n, rm, hn⟩, rfl, q ys _ pm (I.hok.fresh sz)⟩
    rw [ly]
    exact hz
end
end SD
set_option Elab.async false
set_option linter.all false
set_option maxRecDepth 100000
set_option maxHeartbeats 4000000
/-! lists of loads, sorted -/
namespace Pr
open PySem PySem.Spec PyProof.Rows L2 TM Ep Nw PySem.W
open Evl (Ex Ev EvT EvA EvL EvU EvO)
def dL (l : Ld) : PyData := .list (dEs l)
def leL : Ld → Ld → Bool := dataLe false dL
def lsort (ls : List Ld) : List Ld := ls.mergeSort leL
theorem toks_inj : ∀ {l m : Ld}, keyToksAll (dEs l) = keyToksAll (dEs m) → l = m
  | [], [], _ => rfl
  | [], _ :: _, h => by simp [dEs, keyToksAll] at h
  | _ :: _, [], h => by simp [dEs, keyToksAll] at h
  | (a, b, c) :: l, (d, e, f) :: m, h => by
    simp only [dEs, List.map_cons, keyToksAll, dE, keyToks, List.cons_append, List.nil_append, List.cons.injEq, true_and, Sum.inl.injEq] at h
    obtain ⟨h1, h2, h3, h4⟩ := h
    have ih := toks_inj (l := l) (m := m) h4
    have e1 : a = d := by omega
    have e2 : b = e := by omega
    have e3 : c = f := by omega
    rw [ih, e1, e2, e3]
theorem leL_total : TotalLe leL := sortLe_total (PyProof.Rows.listOrd itemOrd) false fun l => keyToks (dL l)
theorem leL_anti {l m : Ld} (h1 : leL l m = true) (h2 : leL m l = true) : l = m := by
  unfold leL dataLe sortLe at h1 h2
  simp only [cond_false, Bool.not_eq_true'] at h1 h2
  have := (PyProof.Rows.listOrd itemOrd).total _ _ h1 h2
  exact (toks_inj (show keyToksAll (dEs m) = keyToksAll (dEs l) from this)).symm
theorem rank_iff {c l : Ld} : sameRank leL c l = (l == c) := by
  unfold sameRank
  by_cases h : l = c
  · subst h
    rw [leL_total.refl]
    simp
  · have : (l == c) = false := by
      rw [beq_eq_false_iff_ne]
      exact h
    rw [this, Bool.and_eq_false_iff]
    cases a : leL c l
    · exact .inl rfl
    · cases b : leL l c
      · exact .inr rfl
      · exact absurd (leL_anti b a) h
/-- sorted, it does not count in which sequence they came -/
theorem lsort_perm {ls ms : List Ld} (h : ls.Perm ms) : lsort ls = lsort ms := by
  refine sort_one leL_total _ _ (sort_pairwise leL_total ls) (sort_pairwise leL_total ms) fun c => ?_
  have e : sameRank leL c = (· == c) := funext fun l => rank_iff
  rw [e, List.filter_beq, List.filter_beq]
  exact congrArg (fun n => List.replicate n c) ((((List.mergeSort_perm ls leL).trans h).trans (List.mergeSort_perm ms leL).symm).count_eq c)
theorem lsort_mem {ls : List Ld} {l : Ld} : l ∈ lsort ls ↔ l ∈ ls := (List.mergeSort_perm ls leL).mem_iff
theorem alike_Es : ∀ l m : Ld, alikeAll (dEs l) (dEs m) = true
  | [], _ => by simp [dEs, alikeAll]
  | _ :: _, [] => by simp [dEs, alikeAll]
  | a :: l, b :: m => by
    have ih := alike_Es l m
    unfold dEs at ih ⊢
    simp only [List.map_cons, alikeAll, ih, dE, alike, Bool.and_true]
theorem alike_L (ls : List Ld) : AllAlike (ls.map dL) := .of fun l m => by
  show alike (.list _) (.list _) = true
  rw [alike]
  exact alike_Es l m
theorem sortable_L (ls : List Ld) : Sortable (ls.map dL) := .others fun l => ⟨(fun h => nomatch h), fun xs h => nomatch h⟩
theorem depth_L (l : Ld) : (dL l).depth ≤ 2 := by
  have := depth_Es l
  unfold dL
  rw [PyData.depth]
  omega
theorem dp_L {K : PySem.W.Frag} {H : Hp} {v : V} {l : Ld} (h : LstOf EntR H v l) : Dp K H v (dL l) := dpx_L h H (Ex.refl _)
theorem moLL : Mono (LstOf EntR) := moE.lst
section
variable {K : PySem.W.Frag} {σ : L2.St} {H : Hp} {te : TE}
/-- sorted(loads) -/
theorem evp_sortL {B : Hp} {ls : List Ld} (h : EvP te σ H (NewLst (LstOf EntR) B ls)) : EvP (tCB (SD.rSortD K) (tCons te tNil)) σ H (NewLst (LstOf EntR) B (lsort ls)) := fun H1 e Q q =>
  h H1 e _ fun v H2 e2 ⟨p, vs, Hn, r, fp, mk, k, hp⟩ => by
    subst r
    have hp2 : Paired (LstOf EntR Hn) vs ls := hp
    refine ⟨Ld, fun v l => LstOf EntR Hn v l, dL, p, vs, ls, rfl, Evl.sq_of (mk _ _ k).1, hp2, fun v l hv => dp_L (moLL _ _ _ _ (fun b o z => (mk b o z).1) hv), alike_L ls, sortable_L ls, fun l _ => Nat.le_trans (depth_L l) (by decide), fun ys c hy hc => ?_⟩
    have f1 := Evl.fresh_back e2 hc
    obtain ⟨m2, ex2⟩ := mk.put (o := .lst ys) hc f1
    exact q _ _ (e2.trans (Ex.new hc)) ⟨c, ys, _, rfl, f1, m2, upd_same, moLL.paired ex2 hy⟩
/-- sorted(loads), told in some sequence -/
theorem evp_sortLP {B : Hp} {ms : List Ld} (h : EvP te σ H (fun v Ha Hb => ∃ ls, List.Perm ls ms ∧ NewLst (LstOf EntR) B ls v Ha Hb)) : EvP (tCB (SD.rSortD K) (tCons te tNil)) σ H (NewLst (LstOf EntR) B (lsort ms)) := fun H1 e Q q =>
  h H1 e _ fun v H2 e2 ⟨ls, pm, p, vs, Hn, r, fp, mk, k, hp⟩ => by
    subst r
    have hp2 : Paired (LstOf EntR Hn) vs ls := hp
    refine ⟨Ld, fun v l => LstOf EntR Hn v l, dL, p, vs, ls, rfl, Evl.sq_of (mk _ _ k).1, hp2, fun v l hv => dp_L (moLL _ _ _ _ (fun b o z => (mk b o z).1) hv), alike_L ls, sortable_L ls, fun l _ => Nat.le_trans (depth_L l) (by decide), fun ys c hy hc => ?_⟩
    have f1 := Evl.fresh_back e2 hc
    obtain ⟨m2, ex2⟩ := mk.put (o := .lst ys) hc f1
    have e3 : ls.mergeSort (dataLe false dL) = lsort ms := lsort_perm pm
    rw [e3] at hy
    exact q _ _ (e2.trans (Ex.new hc)) ⟨c, ys, _, rfl, f1, m2, upd_same, moLL.paired ex2 hy⟩
end
end Pr
set_option Elab.async false
set_option linter.all false
set_option maxRecDepth 100000
set_option maxHeartbeats 4000000
/-! a list that grows; what is made, told of a base -/
theorem L2.Room.units65 {k : Nat} {A : PySem.Around} (r : L2.Room k A) : A.units + 65 < PySem.cLine := by have := r.un; omega
namespace Pr
open PySem PySem.Spec PyProof.Rows L2 TM Ep Nw
open Evl (Ex Ev EvT EvA EvL EvU EvO)
structure GwS {β : Type} (S : Rep β) (B0 H0 H : Hp) (fl : Addr) (Hn : Hp) (ws : List V) (As : List β) : Prop where
  bH : Ex B0 Hn
  ex : Ex H0 H
  hf : H fl = some (.lst ws)
  mk_ : Mk B0 H0 H Hn
  nf : Hn fl = none
  pr : Paired (S Hn) ws As
  ff : H0 fl = none
theorem GwS.byEx {β : Type} {S : Rep β} {B0 H0 H H' Hn : Hp} {fl : Addr} {ws : List V} {As : List β} (G : GwS S B0 H0 H fl Hn ws As) (e : Ex H H') : GwS S B0 H0 H' fl Hn ws As :=
  { G with ex := G.ex.trans e, hf := e _ _ G.hf, mk_ := G.mk_.on e }
theorem GwS.start {β : Type} {S : Rep β} {B0 H0 H : Hp} {fl : Addr} (eB : Ex B0 H0) (e : Ex H0 H) (h : H0 fl = none) (hf : H fl = some (.lst [])) : GwS S B0 H0 H fl B0 [] [] :=
  ⟨Ex.refl _, e, hf, fun b o k => ⟨e _ _ (eB _ _ k), .inl k⟩, Evl.fresh_back eB h, .nil, h⟩
theorem GwS.more {β : Type} {S : Rep β} (mo : Mono S) {B0 H0 H Hn Hv H2 : Hp} {fl : Addr} {ws : List V} {As : List β} {v : V} {a : β} (G : GwS S B0 H0 H fl Hn ws As) (e : Ex H H2) (mv : Mk B0 H H2 Hv) (sv : S Hv v a) : ∃ Hm, GwS S B0 H0 (upd H2 fl (.lst (ws ++ [v]))) fl Hm (ws ++ [v]) (As ++ [a]) := by
  have G2 := G.byEx e
  have h0 : B0 fl = none := by
    cases z : B0 fl with
    | none => rfl
    | some o =>
      have := G.nf
      rw [G.bH _ _ z] at this
      cases this
  have dv : Hv fl = none := by
    cases c : Hv fl with
    | none => rfl
    | some o =>
      rcases (mv fl o c).2 with z | z
      · rw [h0] at z; cases z
      · rw [G.hf] at z; cases z
  obtain ⟨mj, ja, jb⟩ := G2.mk_.join (mv.back G.ex)
  have dj : join Hn Hv fl = none := by
    unfold join
    rw [G.nf]
    exact dv
  exact ⟨_, { bH := G.bH.trans ja, ex := G2.ex.mut G.ff, hf := upd_same, mk_ := fun b o k => ⟨by rw [upd_ne (fun z => by rw [z, dj] at k; cases k)]; exact (mj b o k).1, (mj b o k).2⟩, nf := dj, pr := papp (mo.paired ja G.pr) (.cons (mo _ _ _ _ jb sv) .nil), ff := G.ff }⟩
theorem GwS.done {β : Type} {S : Rep β} (mo : Mono S) {B0 H0 H Hn : Hp} {fl : Addr} {ws : List V} {As : List β} (G : GwS S B0 H0 H fl Hn ws As) : NewLst S B0 As (.ref fl) H0 H :=
  ⟨fl, ws, upd Hn fl (.lst ws), rfl, G.ff, (fun b o k => by
    by_cases n : b = fl
    · subst n
      rw [upd_same] at k
      exact ⟨G.hf.trans k, .inr G.ff⟩
    · rw [upd_ne n] at k
      exact G.mk_ b o k), upd_same, mo.paired (Ex.new G.nf) G.pr⟩
theorem GwS.put {β : Type} {S : Rep β} {B0 H0 H Hn : Hp} {fl : Addr} {ws : List V} {As : List β} {v : V} {a : β} (G : GwS S B0 H0 H fl Hn ws As) (sv : S Hn v a) : GwS S B0 H0 (upd H fl (.lst (ws ++ [v]))) fl Hn (ws ++ [v]) (As ++ [a]) :=
  { G with ex := G.ex.mut G.ff, hf := upd_same, mk_ := fun b o k => ⟨by rw [upd_ne (fun z => by rw [z, G.nf] at k; cases k)]; exact (G.mk_ b o k).1, (G.mk_ b o k).2⟩, pr := papp G.pr (.cons sv .nil) }
section
variable {K : PySem.W.Frag} {σ : L2.St} {H B : Hp} {te ta tb tc : TE}
theorem evp_nilB {β : Type} {S : Rep β} : EvP (tLst tNil) σ H (NewLst S B []) := fun H1 e Q q => ⟨(by show 0 ≤ sizeLine; decide), fun c hc => q _ _ (Ex.new hc) ⟨c, [], upd (fun _ => none) c (.lst []), rfl, hc, (fun b o z => by
  by_cases n : b = c
  · subst n
    rw [upd_same] at z ⊢
    exact ⟨z, .inr hc⟩
  · rw [upd_ne n] at z
    cases z), upd_same, .nil⟩⟩
/-- (o, t, n), told of any base -/
theorem evp_tup3B {o t n : Nat} (h1 : Ev ta σ H (vI o)) (h2 : Ev tb σ H (vI t)) (h3 : Ev tc σ H (vI n)) : EvP (tTup (tCons ta (tCons tb (tCons tc tNil)))) σ H (NewR EntR B (o, t, n)) := fun H1 e Q q =>
  Evl.eu_tup (vs := [vI o, vI t, vI n]) (Evl.ea_cons h1 (Evl.ea_cons h2 (Evl.ea_cons h3 Evl.ea_nil))) (by show 3 ≤ 100000; decide) H1 e Q fun p H2 fp e2 k => q _ H2 e2 ⟨upd (fun _ => none) p (.tup [vI o, vI t, vI n]), (fun b u kb => by
    by_cases n : b = p
    · subst n
      rw [upd_same] at kb
      exact ⟨k.trans kb, .inr fp⟩
    · rw [upd_ne n] at kb
      cases kb), p, rfl, upd_same⟩
theorem evp_lst1B {β : Type} {S : Rep β} (mo : Mono S) {b : β} (h : EvP te σ H (NewR S B b)) : EvP (tLst (tCons te tNil)) σ H (NewLst S B [b]) := fun H1 e Q q =>
  h H1 e _ fun v H2 e2 ⟨Hn, m, s⟩ => ⟨(by show 1 ≤ sizeLine; decide), fun c hc => by
    have f1 := Evl.fresh_back e2 hc
    obtain ⟨m2, ex2⟩ := m.put (o := .lst [v]) hc f1
    exact q _ _ (e2.trans (Ex.new hc)) ⟨c, [v], _, rfl, f1, m2, upd_same, .cons (mo _ _ _ _ ex2 s) .nil⟩⟩
theorem evp_catB {β : Type} {S : Rep β} (mo : Mono S) {v : V} {l m : List β} (eB : Ex B H) (h : Ev ta σ H v) (hl : LstOf S B v l) (h2 : EvP tb σ H (NewLst S B m)) (hs : l.length + m.length ≤ 100000) : EvP (tOp rCat ta tb) σ H (NewLst S B (l ++ m)) := fun H1 e Q q =>
  h H1 e _ fun H2 e2 => h2 H2 (e.trans e2) _ fun u H3 e3 ⟨p', vs', Hn', r', fp', mk', k', hp'⟩ => by
    subst r'
    obtain ⟨p, vs, rfl, k, hp⟩ := hl
    have l1 : vs.length = l.length := PySem.Paired.length hp
    have l2 : vs'.length = m.length := PySem.Paired.length hp'
    refine ⟨p, p', vs, vs', rfl, rfl, ((e.trans e2).trans e3) _ _ (eB _ _ k), (mk' _ _ k').1, szL (by omega), fun c hc => ?_⟩
    have f1 := Evl.fresh_back (e2.trans e3) hc
    have mk0 : Mk B H1 H3 B := fun b o z => ⟨((e.trans e2).trans e3) _ _ (eB _ _ z), .inl z⟩
    obtain ⟨mj, ja, jb⟩ := mk0.join (mk'.back e2)
    obtain ⟨m2, ex2⟩ := mj.put (o := .lst (vs ++ vs')) hc f1
    exact q _ _ ((e2.trans e3).trans (Ex.new hc)) ⟨c, _, _, rfl, f1, m2, upd_same, papp (mo.paired (ja.trans ex2) hp) (mo.paired (jb.trans ex2) hp')⟩
/-- any([te for x in xs]), xs a list of such -/
theorem ev_anyL {α : Type} [Inhabited α] {R : Rep α} (mR : Mono R) {tl : TE} {g : TG} {vs : List Nat} {v : V} {L : List α} (hv : Ev tl σ H v) (hs : LstOf R H v L) (hn : L.length ≤ 50000) (st : α → V → L2.St) (hw : ∀ a x, wipe (st a x) vs = wipe σ vs)
    (hg : ∀ a x H1 Q, a ∈ L → Ex H H1 → R H1 x a → Q (st a x) H1 → g x (wipe σ vs) H1 Q) (f : α → Bool) (he : ∀ a x, a ∈ L → R H x a → Ev te (st a x) H (.bl (f a))) : Ev (tCB (rAny K) (tCons (tLc (iList K tl) g tYes te vs) tNil)) σ H (.bl (L.any f)) := by
  obtain ⟨p, ls, rfl, hx, hp⟩ := hs
  have := ev_any (K := K) (bs := L.map f) (te := tLc (iList K tl) g tYes te vs) (σ := σ) (H := H) (by
    rw [← map_bl]
    exact lcW mR (src_list hv (Evl.sq_of hx)) hp hn st hw (fun a x H1 Q ha e _ r q => hg a x H1 Q ha e r q) (fun _ => true) (fun _ _ _ _ => yes_ev) (fun a => .bl (f a)) (fun a x ha r _ => he a x ha r))
  rw [any_map] at this
  exact this
end
/-! promises -/
structure BkOk (B : Bk) : Prop where
  len : B.length ≤ 1000
  few : ∀ a ∈ B, a.2.length ≤ 1000
  six : sm6 B
theorem nulE {H : Hp} : Ex nul H := fun _ _ h => nomatch h
def spWithPair : Sp := fun vs H Q _ => ∃ B0 B b v l o t, Ex B0 H ∧ vs = [b, v, vI o, vI t] ∧ BkR H b B ∧ BkOk B ∧ LstOf EntR B0 v l ∧ l.length ≤ 900 ∧ ∀ z H', Ex H H' → NewLst (LstOf EntR) B0 (withP B l (o, t)) z H H' → Q z H'
def spStandingLoads : Sp := fun vs H Q _ => ∃ B b r ps, vs = [b, .ref r] ∧ BkR H b B ∧ BkOk B ∧ LstOf PrR H (.ref r) ps ∧ ps.length ≤ 3 ∧ ∀ z H', Ex H H' → NewLst (LstOf EntR) nul (standP B ps [[]]) z H H' → Q z H'
def pairsT (N : List Nat) (t : Nat) : List (Nat × Nat) := (pairsN N).filter fun p => decide (p.2 = t)
def towP (B : Bk) (N : List Nat) (t : Nat) : List Ld := lsort ((standP B (pairsT N t) [[]]).filter fun l => decide (0 < l.length))
def spPairsTo (C : Addr) : Sp := fun vs H Q _ => ∃ L c y t, vs = [.ref c, vI y, vI t] ∧ CAt C H c L ∧ y < L.length + 1 ∧ (adj L y).length ≤ 100 ∧ ∀ z H', Ex H H' → NewLst PrR nul (pairsT (adj L y) t) z H H' → Q z H'
def spTowards (CW C : Addr) : Sp := fun vs H Q _ => ∃ (L : Lanes) (vt : List Nat) (Bs : List Bk) (p : Addr) (i y t : Nat) (B : Bk), vs = [.ref p, vI y, vI t] ∧ WAt CW C H p L Bs ∧ Good vt L ∧ (yardsL L)[i]? = some y ∧ Bs[i]? = some B ∧ GoodBk (adj L y) B ∧ t ∈ adj L y ∧ ∀ z H', Ex H H' → NewLst (LstOf EntR) nul (towP B (adj L y) t) z H H' → Q z H'
def grt (B : Bk) (ps : List (Nat × Nat)) (l : Ld) : Bool := !(ps.any fun p => standsB B (addL l p.1 p.2))
def spGreatest : Sp := fun vs H Q _ => ∃ B b v l r ps, vs = [v, b, .ref r] ∧ BkR H b B ∧ BkOk B ∧ LstOf EntR H v l ∧ l.length ≤ 60 ∧ (∀ p ∈ ps, SmL (others l p.1 p.2 ++ [(p.1, p.2, carts l (some p.1) (some p.2) + 1)])) ∧ LstOf PrR H (.ref r) ps ∧ ps.length ≤ 100 ∧ ∀ H', Ex H H' → Q (.bl (grt B ps l)) H'
def spHeaviest (CW C : Addr) : Sp := fun vs H Q _ => ∃ (L : Lanes) (vt : List Nat) (Bs : List Bk) (p : Addr) (i y t : Nat) (B : Bk), vs = [.ref p, vI y, vI t] ∧ WAt CW C H p L Bs ∧ Good vt L ∧ (yardsL L)[i]? = some y ∧ Bs[i]? = some B ∧ GoodBk (adj L y) B ∧ t ∈ adj L y ∧ ∀ z H', Ex H H' → NewLst (LstOf EntR) nul ((towP B (adj L y) t).filter (grt B (pairsT (adj L y) t))) z H H' → Q z H'
def spChkTarget (C : Addr) : Sp := fun vs H Q _ => ∃ L c y t, vs = [.ref c, vI y, vI t] ∧ CAt C H c L ∧ y < L.length + 1 ∧ t ∈ adj L y ∧ ∀ H', Ex H H' → Q .non H'
end Pr

set_option Elab.async false
set_option linter.all false
set_option maxRecDepth 100000
set_option maxHeartbeats 4000000
namespace Pr
open PySem PySem.Spec PyProof.Rows L2 TM Ep Nw
open Evl (Ex Ev EvT EvA EvL EvU EvO)
/-- new parts beside the pot -/
theorem newBut {H H' Hn : Hp} {p : Addr} (hp : PotAt H p) (m : Mk (but H p) H H' Hn) : Ex Hn (but H' p) := fun b o k => by
  refine but_ne (m b o k).1 fun z => ?_
  subst z
  rcases (m b o k).2 with y | y
  · rw [but_at] at y; cases y
  · obtain ⟨_, _, q, _⟩ := hp
    rw [q] at y; cases y
theorem ev_opP2' {K : PySem.W.Frag} {σ : L2.St} {H : Hp} {ta tb : TE} {r : R2} {x z : V} {P : VP} (ha : Ev ta σ H x) (hb : EvP tb σ H P) (hr : ∀ v H1 H2, Ex H H1 → Ex H1 H2 → P v H1 H2 → Evl.RV r x v H2 z) : Ev (tOp r ta tb) σ H z := fun H0 e Q q =>
  ha H0 e _ fun H1 e1 => hb H1 (e.trans e1) _ fun v H2 e2 p => hr v H1 H2 (e.trans e1) e2 p H2 (Ex.refl _) Q fun H3 e3 => q H3 ((e1.trans e2).trans e3)
theorem rv_isBl {H : Hp} {a b : Bool} : Evl.RV rIsB (.bl a) (.bl b) H (.bl (decide (a = b))) := fun H1 e Q q => ⟨a, b, rfl, rfl, q H1 (Ex.refl _)⟩
def spLoadRight (C : Addr) : Sp := fun vs H Q _ => ∃ p wd v u vt L y n Bb l c, vs = [.ref p, .ref wd, v, u] ∧ PotAt H p ∧ (but H p) wd = some (.tup [.ref c, vI y, n]) ∧ CAt C (but H p) c L ∧ Good vt L ∧ y ∈ yardsL L ∧ LstOf AltL (but H p) v Bb ∧ GoodBk (adj L y) Bb ∧ LstOf EntR (but H p) u l ∧ GoodL (adj L y) l ∧ carts l none none ≤ 20 ∧ ∀ H', ExB p H H' → PotAt H' p → Q (.bl true) H'
theorem ev_ownStands {σ : L2.St} {H : Hp} {ts : TA} {b v : V} {B : Bk} {l : Ld} {N : List Nat} (h : EvA ts σ H [b, v]) (hB : LstOf AltL H b B) (G : GoodBk N B) (hl : LstOf EntR H v l) (hs : l.length ≤ 1000) : Ev (tCall spStandsL [] E0 ts) σ H (.bl (standsB B l)) :=
  ev_evp (evp_callA h (fun H2 e2 Q q => ⟨b, B, v, l, rfl, moAL.lst _ _ _ _ e2 hB, by have := G.most; omega, fun a ha => by have := (G.as_ a ha).few; omega, moE.lst _ _ _ _ e2 hl, hs, fun H3 e3 => q _ H3 e3 rfl⟩) (fun _ _ _ _ _ _ _ h => h))
theorem ev_stands {σ : L2.St} {H : Hp} {ts : TA} {C p : Addr} {v u : V} {vt : List Nat} {L : Lanes} {y : Nat} {B : Bk} {l : Ld} (h : EvA ts σ H [.ref p, vI y, v, u]) (hC : CAt C H p L) (G : Good vt L) (hy : y ∈ yardsL L) (hB : BkR H v B) (gB : GoodBk (adj L y) B) (hl : LdR H u l) (gL : GoodL (adj L y) l) (hs : l.length ≤ 1000) : Ev (tCall (spStands C) [] E0 ts) σ H (.bl (standsB B l)) :=
  ev_evp (evp_callA h (fun H2 e2 Q q => ⟨L, vt, p, y, v, B, u, l, rfl, hC.ex e2, G, hy, moBk _ _ _ _ e2 hB, gB, moLd _ _ _ _ e2 hl, gL, hs, fun H3 e3 => q _ H3 e3 rfl⟩) (fun _ _ _ _ _ _ _ h => h))
def kgR : List Value → List Value → List Value
  | [], ws => ws.reverse
  | _, _ => []
def kgRV : List V → List V → List V
  | [], zs => zs.reverse
  | _, _ => []
theorem vals_rev {zs : List V} {ws : List Value} (h : Vals zs ws) : Vals zs.reverse ws.reverse := by
  induction h with
  | nil => exact .nil
  | cons a _ ih =>
    rw [List.reverse_cons, List.reverse_cons]
    exact ih.append (.cons a .nil)
theorem kgR_rel {vs : List V} {us : List Value} {zs : List V} {ws : List Value} (r1 : Vals vs us) (r2 : Vals zs ws) : Vals (kgRV vs zs) (kgR us ws) := by
  cases r1 with
  | nil => exact vals_rev r2
  | cons a r => exact .nil
/-- f(d = .., c = ..) backwards, all new -/
theorem evp_callR {σ : L2.St} {H : Hp} {sp : Sp} {E : XK} {ts : TA} {zs : List V} {P : VP} (h : EvA ts σ H zs) (hs : ∀ H2, Ex H H2 → ∀ Q : VK, (∀ v H3, Ex H2 H3 → P v H2 H3 → Q v H3) → sp zs.reverse H2 Q E) (hP : ∀ v H1 H2 H3, Ex H H1 → Ex H1 H2 → Ex H2 H3 → P v H2 H3 → P v H1 H3) : EvP (tCallK sp kgRV E tNil ts) σ H P := fun H1 e Q q =>
  h H1 e _ fun H2 e2 => hs H2 (e.trans e2) Q fun v H3 e3 hv => q v H3 (e2.trans e3) (hP v H1 H2 H3 e e2 e3 hv)
end Pr
namespace K26
open PySem PySem.Spec PyProof.Rows L2 TM Pr Ep Nw
open Evl (Ex Ev EvT EvA EvL EvU EvO)
section
variable {P : Program} {w : World} {K : PySem.W.Frag} {mg : Str → Option Value} {base : Heap} {A : Adr}
theorem KB_lets (T : Txt K mg A) : KBinds K A.lets_fd ["web", "yard", "load"] ["load", "yard", "web"] kgR kgRV := by
  obtain ⟨oc, od, kV, doc, pm, an, cdv, ct, osl, e, lk, hcd⟩ := T.F_lets.ex
  refine ⟨fun s us ws hk hl => ?_, kgR_rel⟩
  cases us with
  | cons u us => cases hl
  | nil =>
    have t : ws.reverse.length = 3 := hl
    rw [List.length_reverse] at t
    match ws, t with
    | [a, b, c], _ =>
      rw [e]
      exact BindsTo.of_eq rfl
theorem KB_is_at_most (T : Txt K mg A) : KBinds K A.is_at_most_fd ["country", "yard", "load", "other"] ["other", "load", "yard", "country"] kgR kgRV := by
  obtain ⟨oc, od, kV, doc, pm, an, cdv, ct, osl, e, lk, hcd⟩ := T.F_is_at_most.ex
  refine ⟨fun s us ws hk hl => ?_, kgR_rel⟩
  cases us with
  | cons u us => cases hl
  | nil =>
    have t : ws.reverse.length = 4 := hl
    rw [List.length_reverse] at t
    match ws, t with
    | [a, b, c, d], _ =>
      rw [e]
      exact BindsTo.of_eq rfl
end
end K26

set_option Elab.async false
set_option linter.all false
set_option maxRecDepth 100000
set_option maxHeartbeats 4000000
namespace TM
theorem idx_fOf {n : Nat} {ps : List Nat} (m : Mixed n ps) {y : Nat} (h : y < n) : ps.idxOf (ps.getD y 0) = y := by
  have hl : y < ps.length := by rw [m.len]; exact h
  have e : ps.getD y 0 = ps[y] := by rw [List.getD_eq_getElem?_getD, List.getElem?_eq_getElem hl]; rfl
  rw [e]
  exact List.Nodup.idxOf_getElem m.nd y hl
theorem goodBs_ren {vt : List Nat} {L : Lanes} {ps : List Nat} {Bs : List Bk} (G : Good vt L) (m : Mixed (L.length + 1) ps) (hl : Bs.length = (yardsL L).length) (g : ∀ (i y : Nat) (B : Bk), (yardsL L)[i]? = some y → Bs[i]? = some B → GoodBk (adj L y) B) {y : Nat} (hy : y ∈ yardsL L) :
    GoodBk (adj (ren (fun i => ps.getD i 0) L) (ps.getD y 0)) (renB (fun i => ps.getD i 0) (Bs.getD ((yardsL L).idxOf (ps.idxOf (ps.getD y 0))) [])) := by
  have num := m.num
  have hyv := yard_vs G hy
  rw [idx_fOf m ((G.vs_ _).mp hyv)]
  have hi : (yardsL L).idxOf y < (yardsL L).length := List.idxOf_lt_length_of_mem hy
  have hyx : (yardsL L)[(yardsL L).idxOf y]? = some y := by rw [List.getElem?_eq_getElem hi, List.getElem_idxOf]
  have hB : Bs[(yardsL L).idxOf y]? = some (Bs.getD ((yardsL L).idxOf y) []) := by
    rw [List.getD_eq_getElem?_getD, List.getElem?_eq_getElem (by omega)]
    rfl
  have g1 := g _ _ _ hyx hB
  have ea := ren_adj (f := fun i => ps.getD i 0) G.tr (num.on G) hyv
  have mem : ∀ z, z ∈ adj (ren (fun i => ps.getD i 0) L) (ps.getD y 0) ↔ ∃ x ∈ adj L y, ps.getD x 0 = z := fun z => by
    rw [ea, (isort_perm _).mem_iff, List.mem_map]
  refine GoodBk.ren (fun a ha b hb e => num.on G a (adj_vs G ha) b (adj_vs G hb) e) (fun x hx => (mem _).mpr ⟨x, hx, rfl⟩) (fun z hz => (mem z).mp hz) g1
end TM
namespace Pr
open PySem PySem.Spec PyProof.Rows L2 TM Ep Nw
open Evl (Ex Ev EvT EvA EvL EvU EvO)
theorem rv_notBl {H : Hp} {a b : Bool} : Evl.RV rNotB (.bl a) (.bl b) H (.bl (!decide (a = b))) := fun H1 e Q q => ⟨a, b, rfl, rfl, q H1 (Ex.refl _)⟩
theorem nextK {D : Ends} {σ : L2.St} {H : Hp} (h : D.nx σ H) : tNext D σ H := h
theorem pot_new {H : Hp} {p q : Addr} (hp : PotAt H p) (h : H q = none) : q ≠ p := fun z => by
  obtain ⟨_, _, k, _⟩ := hp
  rw [z, k] at h
  cases h
theorem pot_some {H : Hp} {p : Addr} (hp : PotAt H p) : H p ≠ none := by
  obtain ⟨_, _, k, _⟩ := hp
  rw [k]
  exact fun z => nomatch z
def NewW (CW C : Addr) (B : Hp) (L : Lanes) (Bs : List Bk) : VP := fun v Ha Hb => ∃ q Hn, v = .ref q ∧ Ha q = none ∧ Mk B Ha Hb Hn ∧ WAt CW C Hn q L Bs
theorem lcMap {wi : TI} {g : TG} {te : TE} {vs : List Nat} {σ : L2.St} {H : Hp} {l : List Nat} (s : Src wi σ H (vIs l).length (fun i v => (vIs l)[i]? = some v)) (hn : l.length ≤ 50000) (st : V → L2.St) (hw : ∀ x, wipe (st x) vs = wipe σ vs)
    (hg : ∀ x H1 Q, Ex H H1 → Q (st x) H1 → g x (wipe σ vs) H1 Q) (f : Nat → Nat) (he : ∀ u H1, u ∈ l → Ex H H1 → Ev te (st (vI u)) H1 (vI (f u))) : EvP (tLc wi g tYes te vs) σ H (NewL (vIs (l.map f))) :=
  (lcF s hn st hw hg (fun _ => true) (fun u => vI (f u)) (fun _ _ _ _ => fun H1 e Q q => q H1 (Ex.refl H1)) (fun u H1 hu e _ => he u H1 hu e)).imp fun v _ _ _ _ ⟨p, r, hp, k⟩ => ⟨p, r, hp, by
    rw [k, List.filter_eq_self.mpr (fun _ _ => rfl)]
    unfold vIs
    rw [List.map_map]
    rfl⟩
section
variable {K : PySem.W.Frag} {σ : L2.St} {H : Hp} {te ta tb tc : TE} {ts : TA} {D : Ends} {tz : TS} {i j l : Nat}
/-- Web(country, books) -/
theorem evp_makeW {CW C : Addr} {B : Hp} {L : Lanes} {vt : List Nat} {Bs : List Bk} (h : EvAP ts σ H (fun vs Ha Hb => ∃ c v G, vs = [.ref c, v] ∧ Mk B Ha Hb G ∧ CAt C G c L ∧ LstOf BkR G v Bs)) (g : Good vt L) (hl : Bs.length = (yardsL L).length) (gb : GoodBs L Bs) : EvP (tMake CW (spWInit CW C) [] E0 ts) σ H (NewW CW C B L Bs) := fun H1 e Q q =>
  h H1 e _ fun vs H2 e2 ⟨c, v, G, r, m, hC, hv⟩ x dx hx hdx nx => by
    subst r
    have e3 : Ex H2 (upd (upd H2 dx (.own x)) x (.ins CW dx [])) := (Ex.new hdx).trans (Ex.new (by rw [upd_ne nx.symm]; exact hx))
    refine ⟨G, L, vt, x, dx, c, v, Bs, rfl, upd_same, m.ex.trans e3, Evl.fresh_back m.ex hx, hC, g, hv, hl, gb, fun H' Hn k1 k2 hW => ⟨rfl, q _ H' (fun b o z => ?_) ⟨x, Hn, rfl, Evl.fresh_back e2 hx, fun b o z => ⟨(k2 b o z).1, ?_⟩, hW⟩⟩⟩
    · have z2 := e2 _ _ z
      exact k1 b o (e3 _ _ z2) fun w => by rw [w, hx] at z2; cases z2
    · rcases (k2 b o z).2 with y | y | y
      · exact (m b o y).2
      · exact .inr (Evl.fresh_back (e2.trans e3) y)
      · subst y
        exact .inr (Evl.fresh_back e2 hx)
theorem evp_lockB {C p : Addr} {L : Lanes} (hp : PotAt H p) (h : ∀ Ha, Ex (but H p) Ha → EvP te σ Ha (NewC C L)) : EvP (tLockE te) σ H (fun v Ha Hb => ∃ x, v = .ref x ∧ Ha x = none ∧ CAt C (but Hb p) x L) := fun H1 e Q q =>
  lockC (hp.ex e) (fun Ha ea => h Ha ((but_in e).trans ea)) fun x H2 fx _ e2 hC => q _ H2 e2 ⟨x, rfl, fx, hC⟩
theorem p_tup2 {P1 P2 : VP} (h1 : EvP ta σ H P1) (h2 : ∀ v H1, Ex H H1 → P1 v H H1 → EvP tb σ H1 P2) (k : ∀ v u H1 H2 H3, Ex H H1 → P1 v H H1 → Ex H1 H2 → P2 u H1 H2 → Ex H2 H3 → tz D ((σ.set i (some v)).set j (some u)) H3) : tSeq (tAsg (tTup (tCons ta (tCons tb tNil))) (gTup K 2 (gCons (gName i) (gCons (gName j) gNil)))) tz D σ H :=
  h1.run fun v H1 e1 p1 => (h2 v H1 e1 p1).run fun u H2 e2 p2 => ⟨(by show 2 ≤ sizeLine; decide), fun t ht => go_2 upd_same (k v u H1 H2 _ e1 p1 e2 p2 (Ex.new ht))⟩
theorem p_tup3 {P1 P2 P3 : VP} (h1 : EvP ta σ H P1) (h2 : ∀ v H1, Ex H H1 → P1 v H H1 → EvP tb σ H1 P2) (h3 : ∀ v u H1 H2, Ex H H1 → P1 v H H1 → Ex H1 H2 → P2 u H1 H2 → EvP tc σ H2 P3) (k : ∀ v u w H1 H2 H3 H4, Ex H H1 → P1 v H H1 → Ex H1 H2 → P2 u H1 H2 → Ex H2 H3 → P3 w H2 H3 → Ex H3 H4 → tz D (((σ.set i (some v)).set j (some u)).set l (some w)) H4) : tSeq (tAsg (tTup (tCons ta (tCons tb (tCons tc tNil)))) (gTup K 3 (gCons (gName i) (gCons (gName j) (gCons (gName l) gNil))))) tz D σ H :=
  h1.run fun v H1 e1 p1 => (h2 v H1 e1 p1).run fun u H2 e2 p2 => (h3 v u H1 H2 e1 p1 e2 p2).run fun w H3 e3 p3 => ⟨(by show 3 ≤ sizeLine; decide), fun t ht => go_3 upd_same (k v u w H1 H2 H3 _ e1 p1 e2 p2 e3 p3 (Ex.new ht))⟩
theorem p_par3' {P1 P2 P3 : VP} (h1 : EvP ta σ H P1) (h2 : ∀ v H1, Ex H H1 → P1 v H H1 → EvP tb σ H1 P2) (h3 : ∀ v u H1 H2, Ex H H1 → P1 v H H1 → Ex H1 H2 → P2 u H1 H2 → EvP tc σ H2 P3) (k : ∀ v u w H1 H2 H3, Ex H H1 → P1 v H H1 → Ex H1 H2 → P2 u H1 H2 → Ex H2 H3 → P3 w H2 H3 → tz D (((σ.set i (some v)).set j (some u)).set l (some w)) H3) : tSeq (tPar3 i j l (tCons ta (tCons tb (tCons tc tNil)))) tz D σ H :=
  h1.run fun v H1 e1 p1 => (h2 v H1 e1 p1).run fun u H2 e2 p2 => (h3 v u H1 H2 e1 p1 e2 p2).run fun w H3 e3 p3 => ⟨_, _, _, rfl, k v u w H1 H2 H3 e1 p1 e2 p2 e3 p3⟩
theorem eqV_N {i j : Nat} : eqV (vI i) (vI j) = decide (i = j) := by
  show (((i : Int) == (j : Int)) : Bool) = _
  by_cases h : i = j
  · subst h
    simp
  · rw [decide_eq_false h, beq_eq_false_iff_ne]
    omega
theorem ev_index {a : Addr} {l : List Nat} {x : Nat} (h : Ev ta σ H (.ref a)) (ha : H a = some (.lst (vIs l))) (hb : Ev tb σ H (vI x)) (m : x ∈ l) : Ev (tBM K "list" (rIndex K) ta (tCons tb tNil)) σ H (vI (l.idxOf x)) := fun H1 e Q q =>
  h H1 e _ fun H2 e2 => ⟨.inl ⟨rfl, _, .inl (.inl ((e.trans e2) _ _ ha))⟩, hb H2 (e.trans e2) _ fun H3 e3 => by
    have hl : l.idxOf x < l.length := List.idxOf_lt_length_of_mem m
    refine ⟨a, vIs l, vI x, l.idxOf x, vI x, rfl, rfl, Evl.sq_of (((e.trans e2).trans e3) _ _ ha), rfl, flat_vIs _, ?_, ?_, fun k z hk hz => ?_, q H3 (e2.trans e3)⟩
    · unfold vIs
      rw [List.getElem?_map, List.getElem?_eq_getElem hl, List.getElem_idxOf]
      rfl
    · rw [eqV_N]
      simp
    · have hk2 : k < l.length := by omega
      have : z = vI l[k] := by
        unfold vIs at hz
        rw [List.getElem?_map, List.getElem?_eq_getElem hk2] at hz
        exact (Option.some.inj hz).symm
      rw [this, eqV_N]
      have first := List.not_of_lt_findIdx (p := (· == x)) (xs := l) hk
      exact decide_eq_false fun z => by rw [z] at first; simp at first⟩
end
/-- one more, told of a part that is new since the beginning -/
theorem GvS.more2 {β : Type} {S : Rep β} (mo : Mono S) {B0 H0 H Hn Hv : Hp} {p fl : Addr} {ws : List V} {As : List β} {v : V} {a : β} (G : GvS S B0 H0 H p fl Hn ws As) (mv : Mk B0 H0 H Hv) (dv : Hv fl = none) (sv : S Hv v a) : ∃ Hm, GvS S B0 H0 (upd H fl (.lst (ws ++ [v]))) p fl Hm (ws ++ [v]) (As ++ [a]) := by
  obtain ⟨mj, ja, jb⟩ := G.mk_.join mv
  have dj : join Hn Hv fl = none := by
    unfold join
    rw [G.nf]
    exact dv
  exact ⟨_, { p0 := G.p0, b0p := G.b0p, bH := G.bH.trans ja, ex := G.ex.mut G.ff, pot := G.pot.put G.nfp, hf := upd_same, mk_ := fun b o k => ⟨by rw [upd_ne (fun z => by rw [z, dj] at k; cases k)]; exact (mj b o k).1, (mj b o k).2⟩, nf := dj, pr := papp (mo.paired ja G.pr) (.cons (mo _ _ _ _ jb sv) .nil), ff := G.ff, nfp := G.nfp }⟩
theorem butB {H : Hp} {p : Addr} : ExB p H (but H p) := fun b o h n => but_ne h n
theorem LanesAt.but {H : Hp} {p a : Addr} {L : Lanes} (hp : PotAt H p) (n : a ≠ p) (h : LanesAt H a L) : LanesAt (but H p) a L := h.exB butB hp n
theorem mk_but {B Ha Hb Hn : Hp} {p : Addr} (m : Mk B Ha Hb Hn) (b0 : B p = none) (h : Ha p ≠ none) : Ex Hn (but Hb p) := fun b o z => but_ne (m b o z).1 fun w => by
  subst w
  rcases (m b o z).2 with y | y
  · rw [b0] at y; cases y
  · exact h y
theorem vIs_ix {l : List Nat} {i : Nat} {x : V} (h : (vIs l)[i]? = some x) : ∃ n, l[i]? = some n ∧ x = vI n := by
  unfold vIs at h
  rw [List.getElem?_map] at h
  obtain ⟨n, hn, e⟩ := Option.map_eq_some_iff.mp h
  exact ⟨n, hn, e.symm⟩
section
variable {K : PySem.W.Frag} {σ : L2.St} {H : Hp} {te ta tb tc : TE} {ts : TA} {D : Ends} {tz : TS} {i j l : Nat}
theorem evap_2 {P1 P2 : VP} (h1 : EvP ta σ H P1) (h2 : ∀ v H1 H2, Ex H H1 → Ex H1 H2 → P1 v H1 H2 → EvP tb σ H2 P2) : EvAP (tCons ta (tCons tb tNil)) σ H (fun vs Ha Hc => ∃ v u Hb, vs = [v, u] ∧ Ex Ha Hb ∧ P1 v Ha Hb ∧ Ex Hb Hc ∧ P2 u Hb Hc) := fun H1 e Q q =>
  h1 H1 e _ fun v H2 e2 p1 => h2 v H1 H2 e e2 p1 H2 (Ex.refl _) _ fun u H3 e3 p2 => q [v, u] H3 (e2.trans e3) ⟨v, u, H2, rfl, e2, p1, e3, p2⟩
/-- Web(country, books) beside the pot -/
theorem evp_makeB {CW C p : Addr} {L : Lanes} {vt : List Nat} {Bs : List Bk} (hp : PotAt H p) (h : EvAP ts σ H (fun vs Ha Hb => ∃ c v, vs = [.ref c, v] ∧ CAt C (but Hb p) c L ∧ LstOf BkR (but Hb p) v Bs)) (g : Good vt L) (hl : Bs.length = (yardsL L).length) (gb : GoodBs L Bs) : EvP (tMake CW (spWInit CW C) [] E0 ts) σ H (fun v Ha Hb => ∃ q, v = .ref q ∧ Ha q = none ∧ WAt CW C (but Hb p) q L Bs) := fun H1 e Q q =>
  h H1 e _ fun vs H2 e2 ⟨c, v, r, hC, hv⟩ x dx hx hdx nx => by
    subst r
    have e3 : Ex H2 (upd (upd H2 dx (.own x)) x (.ins CW dx [])) := (Ex.new hdx).trans (Ex.new (by rw [upd_ne nx.symm]; exact hx))
    have hp2 := hp.ex (e.trans e2)
    refine ⟨but H2 p, L, vt, x, dx, c, v, Bs, rfl, upd_same, but_ex.trans e3, Evl.fresh_back but_ex hx, hC, g, hv, hl, gb, fun H' Hn k1 k2 hW => ⟨rfl, q _ H' (fun b o z => ?_) ⟨x, rfl, Evl.fresh_back e2 hx, hW.ex fun b o z => but_ne (k2 b o z).1 fun w => ?_⟩⟩⟩
    · have z2 := e2 _ _ z
      exact k1 b o (e3 _ _ z2) fun w => by rw [w, hx] at z2; cases z2
    · subst w
      rcases (k2 b o z).2 with y | y | y
      · rw [but_at] at y; cases y
      · exact pot_some (hp2.ex e3) y
      · subst y
        exact pot_some hp2 hx
theorem evap_c {vs : List V} (h : EvA ts σ H vs) : EvAP ts σ H (fun us Ha Hb => us = vs ∧ Ex H Ha ∧ Ex Ha Hb) := fun H1 e Q q => h H1 e _ fun H2 e2 => q vs H2 e2 ⟨rfl, e, e2⟩
theorem evap_imp {P1 P2 : List V → Hp → Hp → Prop} (h : EvAP ts σ H P1) (k : ∀ vs Ha Hb, Ex H Ha → Ex Ha Hb → P1 vs Ha Hb → P2 vs Ha Hb) : EvAP ts σ H P2 := fun H1 e Q q => h H1 e _ fun vs H2 e2 p => q vs H2 e2 (k vs H1 H2 e e2 p)
theorem evap_cons1 {vs : List V} {P1 : VP} (h : EvP te σ H P1) (ht : EvA ts σ H vs) : EvAP (tCons te ts) σ H (fun us Ha Hc => ∃ u Hb, us = u :: vs ∧ Ex Ha Hb ∧ P1 u Ha Hb ∧ Ex Hb Hc) := fun H1 e Q q =>
  h H1 e _ fun u H2 e2 p => ht H2 (e.trans e2) _ fun H3 e3 => q _ H3 (e2.trans e3) ⟨u, H2, rfl, e2, p, e3⟩
theorem evap_consE {x : V} {PA : List V → Hp → Hp → Prop} (h : Ev te σ H x) (ht : EvAP ts σ H PA) : EvAP (tCons te ts) σ H (fun us Ha Hc => ∃ us' Hb, us = x :: us' ∧ Ex Ha Hb ∧ PA us' Hb Hc) := fun H1 e Q q =>
  h H1 e _ fun H2 e2 => ht H2 (e.trans e2) _ fun us H3 e3 p => q _ H3 (e2.trans e3) ⟨us, H2, rfl, e2, p⟩
theorem evp_callP {sp : Sp} {E : XK} {PA : List V → Hp → Hp → Prop} {P : VP} (h : EvAP ts σ H PA) (hs : ∀ vs H1 H2, Ex H H1 → Ex H1 H2 → PA vs H1 H2 → ∀ Q : VK, (∀ v H3, Ex H2 H3 → P v H1 H3 → Q v H3) → sp vs H2 Q E) : EvP (tCall sp [] E ts) σ H P := fun H1 e Q q =>
  h H1 e _ fun vs H2 e2 p => by
    have := hs vs H1 H2 e e2 p Q fun v H3 e3 hv => q v H3 (e2.trans e3) hv
    rw [← List.append_nil vs] at this
    exact this
theorem evp_callRP {sp : Sp} {E : XK} {PA : List V → Hp → Hp → Prop} {P : VP} (h : EvAP ts σ H PA) (hs : ∀ vs H1 H2, Ex H H1 → Ex H1 H2 → PA vs H1 H2 → ∀ Q : VK, (∀ v H3, Ex H2 H3 → P v H1 H3 → Q v H3) → sp vs.reverse H2 Q E) : EvP (tCallK sp kgRV E tNil ts) σ H P := fun H1 e Q q =>
  h H1 e _ fun vs H2 e2 p => hs vs H1 H2 e e2 p Q fun v H3 e3 hv => q v H3 (e2.trans e3) hv
theorem szL2 {n : Nat} (h : n ≤ 1000) : n * 2 ≤ sizeLine := Nat.le_trans (by omega : n * 2 ≤ 2000) (by decide)
theorem evp_rep2 {xs : List V} (h : EvP te σ H (NewL xs)) (hl : xs.length ≤ 1000) : EvP (tOp rRep te (tC (.int 2))) σ H (NewL (xs ++ xs)) := fun H1 e Q q =>
  h H1 e _ fun v H2 e2 ⟨p, r, fp, k⟩ => ⟨p, 2, xs, r, rfl, k, by decide, by decide, szL2 hl, fun c hc => q _ _ (e2.trans (Ex.new hc)) ⟨c, rfl, Evl.fresh_back e2 hc, by
    have : (List.replicate (2 : Int).toNat xs).flatten = xs ++ xs := by
      show (List.replicate 2 xs).flatten = xs ++ xs
      simp
    rw [this]
    exact upd_same⟩⟩
theorem cut_last (xs : List V) (x : V) : cutV (xs ++ [x]) none (some (-1)) = xs := by
  unfold cutV
  have : HT.sIx (xs ++ [x]).length (xs ++ [x]).length (some (-1)) = xs.length := by
    show ((-1 : Int) + ((xs ++ [x]).length : Int)).toNat = _
    rw [List.length_append, List.length_singleton]
    omega
  rw [this]
  show ((xs ++ [x]).drop 0).take (xs.length - 0) = xs
  simp
theorem eo_none : EvO tNoPart σ H none := fun H1 _ Q q => q H1 (Ex.refl _)
theorem ex_but {F H : Hp} {p : Addr} (e : Ex F H) (h : F p = none) : Ex F (but H p) := fun b o z => but_ne (e _ _ z) fun w => by rw [w, h] at z; cases z
end
end Pr

set_option Elab.async false
set_option linter.all false
set_option maxRecDepth 100000
set_option maxHeartbeats 4000000
namespace K26
open PySem PySem.Spec PyProof.Rows L2 TM Pr Ep Nw
open Evl (Ex Ev EvT EvA EvL EvU EvO)
section
variable {P : Program} {w : World} {K : PySem.W.Frag} {mg : Str → Option Value} {base : Heap} {A : Adr}
theorem ok_with_pair (T : Txt K mg A) : FnOk P w K mg base CX0 5 A.with_pair A.with_pair_fd ["book", "load", "origin", "target"] spWithPair := by
  refine T.F_with_pair.ok sc_with_pair (fun vs H Q E h => ?_) (fun cdv A' outer s H vs Q E hr h => ?_)
  · obtain ⟨B0, B, b, v, l, o, t, _, rfl, _⟩ := h
    rfl
  · obtain ⟨B0, B, b, v, l, o, t, eB, rfl, hB, ok, hl, hs, k⟩ := h
    refine ⟨_, (pss_cons (ps_set (i := 4) sc_with_pair.nd rfl (Or.inl rfl) (pe_lst pa_nil)) (pss_cons (ps_while PassesOwn.never (pt_val (pe_call (ok_stands_in T) (hr.mono (by decide)) (by rfl) T.m_stands_in T.F_stands_in.kp T.b_stands_in .nil pass0 (pa_cons (pe_op op_cat (pv 1) (pe_lst (pa_cons (pe_tup (pa_cons (pv 2) (pa_cons (pv 3) (pa_cons (pe_op op_add (show PE _ _ (tCB (rLenA K) _) from (pe_callB (id := "len") call_len (by rfl) T.n_len (by decide +kernel) (pa_cons (pv 4) pa_nil))) pe_int) pa_nil)))) pa_nil))) (pa_cons (pv 0) pa_nil)))) (pss_one (ps_expr (show PE _ _ (tBM K "list" rAppend _ _) from pe_bm PySem.F.plainAttrs_list PySem.F.slot_list_append PySem.F.type_list_append mt_append (pv 4) (pa_cons (pe_op op_cat (pv 1) (pe_lst (pa_cons (pe_tup (pa_cons (pv 2) (pa_cons (pv 3) (pa_cons (pe_op op_add (show PE _ _ (tCB (rLenA K) _) from (pe_callB (id := "len") call_len (by rfl) T.n_len (by decide +kernel) (pa_cons (pv 4) pa_nil))) pe_int) pa_nil)))) pa_nil))) pa_nil))))) (pss_one (ps_ret (pv 4))))), ?_⟩
    refine p_asg (evp_lst Evl.ea_nil (by show 0 ≤ 100000; decide)) fun v1 H1 e1 hv => ?_
    obtain ⟨fl, rfl, ff, hf⟩ := hv
    have G0 : GwS (LstOf EntR) B0 H H1 fl B0 [] [] := .start eB e1 ff hf
    show tSeq (tWhile _ _) _ _ ([some b, some v, some (vI o), some (vI t), some (.ref fl)]) H1
    have g6 := ok.six
    refine Evl.q_while (fun n σ' H' => ∃ i Hn ws, σ' = [some b, some v, some (vI o), some (vI t), some (.ref fl)] ∧ GwS (LstOf EntR) B0 H H' fl Hn ws ((List.range i).map fun j => put l (o, t) (j + 1)) ∧ i ≤ many B l (o, t) ∧ n = many B l (o, t) - i) (many B l (o, t))
      ⟨0, B0, [], rfl, G0, Nat.zero_le _, rfl⟩ (fun n σ' H2 h => ?_)
    obtain ⟨i, Hn, ws, rfl, G, hi, rfl⟩ := h
    have ml := many_lt g6 l (o, t)
    have one : ∀ {H3 : Hp}, Ex H2 H3 → Ev (tOp (rI0 fun i j => V.int (i + j)) (tCB (rLenA K) (tCons (tVar 4) tNil)) (tC (.int 1))) [some b, some v, some (vI o), some (vI t), some (.ref fl)] H3 (vI (i + 1)) := fun {H3} e3 =>
      Evl.ev_is (Evl.ev_op (ev_lenS (S := LstOf EntR) (v := .ref fl) (l := (List.range i).map fun j => put l (o, t) (j + 1)) (Evl.ev_var rfl) ⟨fl, ws, rfl, .inl (G.byEx e3).hf, moLL.paired (G.byEx e3).mk_.ex G.pr⟩) Evl.ev_c rv_I0P) (by
        rw [List.length_map, List.length_range]
        show V.int _ = V.int _
        congr 1)
    have x2 := eB.trans G.ex
    refine ⟨decide (i < many B l (o, t)), Evl.et_B (ev_evp (evp_call2 (evp_catB (B := B0) moE x2 (Evl.ev_var rfl) hl (evp_lst1B moE (evp_tup3B (Evl.ev_var rfl) (Evl.ev_var rfl) (one (Ex.refl _)))) (by simp; omega)) (Evl.ev_var rfl) (fun z Ha Hb Hc ea eb ec hz Q q => ?_))), fun hb H3 e3 => ?_, fun hb H3 e3 => ?_⟩
    · refine ⟨z, put l (o, t) (i + 1), b, B, rfl, seq_of (moE.lst _ _ _ _ ec (newLst_at moE hz)), ?_, moBk _ _ _ _ (G.ex.trans ((ea.trans eb).trans ec)) hB, ok.len, ok.few, fun H6 e6 => q _ H6 e6 ?_⟩
      · show (l ++ [_]).length ≤ 1000
        simp
        omega
      · show V.bl _ = V.bl _
        congr 1
        by_cases c : i < many B l (o, t)
        · rw [decide_eq_true c, many_in c]
        · rw [decide_eq_false c]
          have : i = many B l (o, t) := by omega
          rw [this]
          exact many_out g6
    · have hlt : i < many B l (o, t) := of_decide_eq_true hb
      have G3 := G.byEx e3
      refine ⟨fun σ4 H4 => ∃ Hn ws, σ4 = [some b, some v, some (vI o), some (vI t), some (.ref fl)] ∧ GwS (LstOf EntR) B0 H H4 fl Hn ws ((List.range (i + 1)).map fun j => put l (o, t) (j + 1)), fun σ4 H4 ⟨Hn, ws, a1, a2⟩ => ⟨many B l (o, t) - (i + 1), by omega, i + 1, Hn, ws, a1, a2, hlt, rfl⟩, ?_⟩
      refine ⟨_, rfl, .inl ⟨rfl, _, .inl (.inl G3.hf)⟩, ?_⟩
      refine evp_catB (B := B0) moE (x2.trans e3) (Evl.ev_var rfl) hl (evp_lst1B moE (evp_tup3B (Evl.ev_var rfl) (Evl.ev_var rfl) (one e3))) (by simp; omega) H3 (Ex.refl _) _ fun z H4 e4 hz => ?_
      obtain ⟨Hv, mv, sv⟩ := hz.r
      obtain ⟨Hm, Gm⟩ := G3.more moLL e4 mv sv
      have lw : ws.length = i := by
        rw [PySem.Paired.length G.pr, List.length_map, List.length_range]
      refine ⟨fl, ws, z, rfl, rfl, (G3.byEx e4).hf, szN (by omega), Hm, ws ++ [z], rfl, ?_⟩
      rw [List.range_succ, List.map_append]
      exact Gm
    · have he : i = many B l (o, t) := by
        have : ¬ i < many B l (o, t) := of_decide_eq_false hb
        omega
      subst he
      exact ⟨_, rfl, k _ _ (G.ex.trans e3) ((G.byEx e3).done moLL)⟩
theorem put_len (l : Ld) (p : Nat × Nat) (n : Nat) : (put l p n).length ≤ l.length + 1 := by
  cases n with
  | zero => exact Nat.le_succ _
  | succ n =>
    show (l ++ [_]).length ≤ _
    rw [List.length_append]
    exact Nat.le_refl _
theorem ok_standing_loads (T : Txt K mg A) : FnOk P w K mg base CX0 6 A.standing_loads A.standing_loads_fd ["book", "pairs"] spStandingLoads := by
  refine T.F_standing_loads.ok sc_standing_loads (fun vs H Q E h => ?_) (fun cdv A' outer s H vs Q E hr h => ?_)
  · obtain ⟨B, b, r, ps, rfl, _⟩ := h
    rfl
  · obtain ⟨B, b, r, ps, rfl, hB, ok, hr0, hps, k⟩ := h
    refine ⟨_, (pss_cons (ps_set (i := 2) sc_standing_loads.nd rfl (Or.inl rfl) (pe_lst (pa_cons (pe_lst pa_nil) pa_nil))) (pss_cons (ps_for PassesOwn.never rfl (show PI _ _ _ (iList K _) from pi_list (pv 1)) (show PG _ _ (gTup K 2 _) from pg_tup rfl (pgs_cons (pg_name (i := 3) sc_standing_loads.nd rfl (Or.inr rfl)) (pgs_cons (pg_name (i := 4) sc_standing_loads.nd rfl (Or.inr rfl)) pgs_nil))) (pss_cons (ps_set (i := 2) sc_standing_loads.nd rfl (Or.inl rfl) (pe_op op_cat (pv 2) (pe_lc2 (own := [("load", 5), ("larger", 6)]) (vs1 := [6]) rfl sc_standing_loads.nd (show PI _ _ _ (iList K _) from pi_list (pv 2)) (blkOk_by (N := n_standing_loads) (sc := defScope s_standing_loads) (by decide +kernel)) (by decide) (fun _ _ _ _ _ => (pg_name (i := 5) sc_standing_loads.nd rfl (Or.inl rfl))) (fun _ _ _ _ _ => pts_nil) (fun _ _ _ _ _ => (show PI _ _ _ (iList K _) from pi_list (pe_call (ok_with_pair T) (hr.mono (by decide)) (by rfl) T.m_with_pair T.F_with_pair.kp T.b_with_pair .nil pass0 (pa_cons (pv 0) (pa_cons (pv 5) (pa_cons (pv 3) (pa_cons (pv 4) pa_nil))))))) (fun _ _ _ _ _ => (pg_name (i := 6) sc_standing_loads.nd rfl (Or.inl rfl))) (fun _ _ _ _ _ => pts_nil) (fun _ _ _ _ _ => (pv 6))))) (pss_one (ps_if (pt_cmpR op_gt (show PE _ _ (tCB (rLenA K) _) from (pe_callB (id := "len") call_len (by rfl) T.n_len (by decide +kernel) (pa_cons (pv 2) pa_nil))) (pe_globI rfl T.g_MOST_LOADS) (nomark _)) (pss_one ps_never) pss_nil)))) (pss_one (ps_ret (pv 2))))), ?_⟩
    obtain ⟨r', rs, rr, hrs, hpr⟩ := id hr0
    cases rr
    have hrl : rs.length = ps.length := PySem.Paired.length hpr
    have g6 := ok.six
    refine p_asg (P := NewLst (LstOf EntR) nul [[]]) (evp_lst1B moLL (EvP.imp (evp_nilB (S := EntR) (B := nul)) fun _ _ _ _ _ h => h.r)) fun v1 H1 e1 hv => ?_
    obtain ⟨q0, G0, rfl, fq0, mG0, bG0, hq0⟩ := NewLst_all moLL nulE hv
    show tSeq (tFor _ _ _) _ _ ([some b, some (.ref r), some (.ref q0), none, none, none, none]) H1
    refine Evl.q_forL (a := r) (xs := rs) (Evl.ev_var rfl) (Evl.sq_of (e1 _ _ hrs)) (fun i σ' H' => ∃ y3 y4 q Hn ls, σ' = [some b, some (.ref r), some (.ref q), y3, y4, none, none] ∧ Ex H H' ∧ Mk nul H H' Hn ∧ H q = none ∧ LstOf (LstOf EntR) Hn (.ref q) ls ∧ standP B (ps.drop i) ls = standP B ps [[]] ∧ ls.length ≤ 7 ^ i ∧ ∀ l ∈ ls, l.length ≤ i)
      (fun H2 e2 => ⟨none, none, q0, G0, [[]], rfl, e1.trans e2, mG0.on e2, fq0, hq0, rfl, by simp, fun l hl => by rw [List.mem_singleton.mp hl]; exact Nat.le_refl _⟩) (fun i σ' H' _ h => ?_) (fun i x σ' H' hx h => ?_) (fun σ' H' h => ?_)
    · obtain ⟨y3, y4, q, Hn, ls, rfl, e, _⟩ := h
      exact Evl.sq_of (e _ _ hrs)
    · obtain ⟨y3, y4, q, Hn, ls, rfl, e, m, fq, hq, hst, hln, hsh⟩ := h
      obtain ⟨⟨o, t⟩, hp, rp⟩ := pix hpr hx
      obtain ⟨t', rfl, ht⟩ := rp
      have hi : i < ps.length := (List.getElem?_eq_some_iff.mp hp).1
      have h49 : 7 ^ i ≤ 7 ^ 2 := Nat.pow_le_pow_right (by decide) (by omega)
      have h49' : (7 : Nat) ^ 2 = 49 := by decide
      refine go_2 (i := 3) (j := 4) (e _ _ ht) ?_
      obtain ⟨q', vs, rq, hqs, hpq⟩ := id hq
      cases rq
      have xn : Ex Hn H' := m.ex
      refine p_asg (P := NewLst (LstOf EntR) Hn (ls ++ ls.flatMap fun l => withP B l (o, t))) (evp_catB (B := Hn) moLL xn (Evl.ev_var rfl) hq (lcFlat (R := fun _ v l => LstOf EntR Hn v l) (S := LstOf EntR) (fun _ _ _ _ _ h => h) moLL xn (fun l => withP B l (o, t)) (src_list (Evl.ev_var rfl) (Evl.sq_of (xn _ _ hqs))) hpq 6 (by omega) (fun l _ => withP_len g6 l _) (fun l x => [some b, some (.ref r), some (.ref q), some (vI o), some (vI t), some x, none]) (fun _ _ => rfl) (fun _ _ _ _ _ _ _ q => q) (fun l x hl rl => ?_) (fun l x y => [some b, some (.ref r), some (.ref q), some (vI o), some (vI t), some x, some y]) (fun _ _ _ => rfl) (fun _ _ _ _ _ _ _ q => q) (fun l x y _ => Evl.ev_var rfl)) ?_) fun v2 H2 e2 hv => ?_
      · exact evp_callA (vs := [b, x, vI o, vI t]) (Evl.ea_cons (Evl.ev_var rfl) (Evl.ea_cons (Evl.ev_var rfl) (Evl.ea_cons (Evl.ev_var rfl) (Evl.ea_cons (Evl.ev_var rfl) Evl.ea_nil)))) (fun H5 e5 Q q => ⟨Hn, B, b, x, l, o, t, xn.trans e5, rfl, moBk _ _ _ _ (e.trans e5) hB, ok, rl, by have := hsh l hl; omega, fun z H6 e6 hz => q z H6 e6 hz⟩) (fun v Ha Hb Hc _ eb _ h => h.back eb)
      · have := stepP_len g6 ls (o, t)
        rw [List.length_append] at this
        omega
      obtain ⟨q2, G2, rfl, fq2, mG2, bG2, hq2⟩ := NewLst_all moLL (xn.trans e2) hv
      have hl2 := stepP_len g6 ls (o, t)
      have hpw : 7 ^ (i + 1) = 7 ^ i * 7 := Nat.pow_succ ..
      have m2 := Mk_chain m e mG2
      show tIfS _ _ tNext _ ([some b, some (.ref r), some (.ref q2), some (vI o), some (vI t), none, none]) H2
      refine p_skip1 (Evl.et_is (Evl.et_test (Evl.ev_op (ev_lenS (Evl.ev_var rfl) (seq_of (moLL.lst _ _ _ _ mG2.ex hq2))) Evl.ev_c rv_I0P)) (decide_eq_false (by omega))) fun H3 e3 => ?_
      refine ⟨some (vI o), some (vI t), q2, G2, _, rfl, (e.trans e2).trans e3, m2.on e3, Evl.fresh_back e fq2, hq2, ?_, by omega, fun l hl => ?_⟩
      · rw [← hst]
        have ed : ps.drop i = (o, t) :: ps.drop (i + 1) := by
          rw [List.drop_eq_getElem_cons hi]
          congr 1
          exact (List.getElem?_eq_some_iff.mp hp).2
        rw [ed]
        rfl
      · rcases List.mem_append.mp hl with c | c
        · have := hsh l c
          omega
        · obtain ⟨l', hl', c⟩ := List.mem_flatMap.mp c
          unfold withP at c
          obtain ⟨j, _, rfl⟩ := List.mem_map.mp c
          have := put_len l' (o, t) (j + 1)
          have := hsh l' hl'
          omega
    · obtain ⟨y3, y4, q, Hn, ls, rfl, e, m, fq, hq, hst, hln, hsh⟩ := h
      rw [hrl, List.drop_length] at hst
      obtain ⟨q', vs, rq, hqs, hpq⟩ := hq
      cases rq
      refine ⟨_, rfl, k _ _ e ⟨q, vs, Hn, rfl, fq, m, hqs, ?_⟩⟩
      rw [← hst]
      exact hpq
end
end K26

set_option Elab.async false
set_option linter.all false
set_option maxRecDepth 100000
set_option maxHeartbeats 4000000
namespace K26
open PySem PySem.Spec PyProof.Rows L2 TM Pr Ep Nw
open Evl (Ex Ev EvT EvA EvL EvU EvO)
section
variable {P : Program} {w : World} {K : PySem.W.Frag} {mg : Str → Option Value} {base : Heap} {A : Adr}
theorem bkOk_of {N : List Nat} {B : Bk} (g : GoodBk N B) : BkOk B := ⟨by have := g.most; omega, fun a ha => by have := (g.as_ a ha).few; omega, fun a ha => (g.as_ a ha).most⟩
theorem ok_check_target (T : Txt K mg A) : FnOk P w K mg base CX0 6 A.check_target A.check_target_fd ["country", "yard", "target"] (spChkTarget A.Country) := by
  refine T.F_check_target.ok sc_check_target (fun vs H Q E h => ?_) (fun cdv A' outer s H vs Q E hr h => ?_)
  · obtain ⟨L, c, y, t, rfl, _⟩ := h
    rfl
  · obtain ⟨L, c, y, t, rfl, hC, hy, ht, k⟩ := h
    refine ⟨_, (pss_one (ps_if (pt_not (pt_val (pe_call (ok_is_neighbour T) (hr.mono (by decide)) (by rfl) T.m_is_neighbour T.F_is_neighbour.kp T.b_is_neighbour .nil pass0 (pa_cons (pv 0) (pa_cons (pv 1) (pa_cons (pv 2) pa_nil)))))) (pss_one ps_never) pss_nil)), ?_⟩
    exact p_skip1 (Evl.et_is (Evl.et_not (a := true) (Evl.et_B (Evl.ev_is (ev_isNb (vb3 rfl rfl rfl) hC hy) (by rw [decide_eq_true ht])))) rfl) fun H1 e1 => k H1 e1
theorem ok_pairs_towards (T : Txt K mg A) : FnOk P w K mg base CX0 5 A.pairs_towards A.pairs_towards_fd ["country", "yard", "target"] (spPairsTo A.Country) := by
  refine T.F_pairs_towards.ok sc_pairs_towards (fun vs H Q E h => ?_) (fun cdv A' outer s H vs Q E hr h => ?_)
  · obtain ⟨L, c, y, t, rfl, _⟩ := h
    rfl
  · obtain ⟨L, c, y, t, rfl, hC, hy, hN, k⟩ := h
    refine ⟨_, (pss_one (ps_ret (pe_lc (own := [("pair", 3)]) rfl sc_pairs_towards.nd (show PI _ _ _ (iList K _) from pi_list (pe_call (ok_pairs_of T) (hr.mono (by decide)) (by rfl) T.m_pairs_of T.F_pairs_of.kp T.b_pairs_of .nil pass0 (pa_cons (pe_meth (pv 0) T.cl_Country T.me_Country_neighbours (ok_Country_neighbours T) (hr.mono (by decide)) T.b_Country_neighbours .nil pass0 (pa_cons (pv 1) pa_nil)) pa_nil))) (blkOk_by (N := n_pairs_towards) (sc := defScope s_pairs_towards) (by decide +kernel)) (fun _ _ _ _ _ => (pg_name (i := 3) sc_pairs_towards.nd rfl (Or.inl rfl))) (fun _ _ _ _ _ => (pts_one (pt_cmpR op_eq (show PE _ _ (tOp (rIxT K) _ _) from pe_ix ix_tup (pv 3) pe_int (fun _ _ => rfl)) (pv 2) (nomark _)))) (fun _ _ _ _ _ => (pv 3))))), ?_⟩
    refine p_ret (P := NewLst PrR nul (pairsT (adj L y) t)) (evp_lcN (P := NewLst PrR nul (pairsN (adj L y))) (P2 := fun v H1 H2 z _ H3 => ∃ Hn, Mk nul H1 H2 Hn ∧ NewLst PrR Hn (pairsT (adj L y) t) z H2 H3) (evp_callP (evap_cons1 (evp_nbsM (K := K) (Evl.ev_var rfl) (Evl.ev_var rfl) hC hy) Evl.ea_nil) (fun vs H1 H2 e1 e12 hv Q q => ?_)) (fun v H1 H2 e1 e2 hv => ?_) (fun v z H1 H2 H3 e1 e2 hv e3 hz => ?_)) fun z H1 e1 hz => k z H1 e1 hz
    · obtain ⟨u, Hb, rfl, eab, ⟨q1, rfl, fq, hq⟩, ebc⟩ := hv
      have mB : Mk nul H1 H2 (upd nul q1 (.lst (vIs (adj L y)))) := fun b o z => by
        by_cases n : b = q1
        · subst n
          rw [upd_same] at z
          exact ⟨(ebc _ _ hq).trans z, .inr fq⟩
        · rw [upd_ne n] at z
          cases z
      exact ⟨_, q1, adj L y, mB.ex, rfl, upd_same, hN, fun z H3 e3 hz => q z H3 e3 (NewLst_chain mB e12 hz)⟩
    · obtain ⟨q, vs, Hn, rfl, fq, m, hq, hp⟩ := hv
      have pl : (pairsN (adj L y)).length ≤ 50000 := by
        have h : ∀ (M : List Nat), (M.map fun o => (((adj L y).filter fun t => !decide (o = t)).map fun t => (o, t)).length).sum ≤ M.length * 100 := by
          intro M
          induction M with
          | nil => simp
          | cons a M ih =>
            rw [List.map_cons, List.sum_cons, List.length_map, List.length_cons, Nat.succ_mul]
            have := List.length_filter_le (fun t => !decide (a = t)) (adj L y)
            omega
        have h := h (adj L y)
        have := Nat.mul_le_mul_right 100 hN
        unfold pairsN
        rw [List.length_flatMap]
        omega
      refine EvP.imp (EvP.mono m.ex (lcG (S := PrR) (R := PrR) moP moP (src_list (K := K) Evl.ev_c (Evl.sq_of hq)) hp pl (fun p x => [some (.ref c), some (vI y), some (vI t), some x]) (fun _ _ => rfl) (fun _ _ _ _ _ _ _ _ q => q) (fun p => decide (p.2 = t)) (fun p x _ re => ?_) (fun p => p) (fun p x _ re _ => ?_))) (fun z Ha Hb ea eb hz => ?_)
      · obtain ⟨t', rfl, h⟩ := re
        exact Evl.et_is (Evl.et_test (Evl.ev_op (ev_ixT (K := K) (j := 1) (Evl.ev_var rfl) h rfl) (Evl.ev_var rfl) (Evl.rv_eq rfl))) eqN
      · exact (evp_ev (Evl.ev_var rfl)).imp fun z Ha Hb ea eb h => by
          cases h
          exact newR_old re (ea.trans eb)
      · rw [List.map_id'] at hz
        exact ⟨Hn, m, hz.back ea⟩
    · obtain ⟨Hn, m, hz⟩ := hz
      exact NewLst_chain m e2 hz
theorem ok_is_greatest (T : Txt K mg A) : FnOk P w K mg base CX0 5 A.is_greatest A.is_greatest_fd ["load", "book", "pairs"] spGreatest := by
  refine T.F_is_greatest.ok sc_is_greatest (fun vs H Q E h => ?_) (fun cdv A' outer s H vs Q E hr h => ?_)
  · obtain ⟨B, b, v, l, r, ps, rfl, _⟩ := h
    rfl
  · obtain ⟨B, b, v, l, r, ps, rfl, hB, ok, hl, hs, sm, hr0, hps, k⟩ := h
    refine ⟨_, (pss_one (ps_ret (pe_not (show PE _ _ (tCB (rAny K) _) from (pe_callB (id := "any") (cr_any rfl) (by rfl) T.n_any (by decide +kernel) (pa_cons (pe_lc (own := [("origin", 3), ("target", 4)]) rfl sc_is_greatest.nd (show PI _ _ _ (iList K _) from pi_list (pv 2)) (blkOk_by (N := n_is_greatest) (sc := defScope s_is_greatest) (by decide +kernel)) (fun _ _ _ _ _ => (show PG _ _ (gTup K 2 _) from pg_tup rfl (pgs_cons (pg_name (i := 3) sc_is_greatest.nd rfl (Or.inl rfl)) (pgs_cons (pg_name (i := 4) sc_is_greatest.nd rfl (Or.inl rfl)) pgs_nil)))) (fun _ _ _ _ _ => pts_nil) (fun _ _ _ _ _ => (pe_call (ok_stands_in T) (hr.mono (by decide)) (by rfl) T.m_stands_in T.F_stands_in.kp T.b_stands_in .nil pass0 (pa_cons (pe_call (ok_added T) (hr.mono (by decide)) (by rfl) T.m_added T.F_added.kp T.b_added .nil pass0 (pa_cons (pv 0) (pa_cons (pv 3) (pa_cons (pv 4) pa_nil)))) (pa_cons (pv 1) pa_nil))))) pa_nil)))))), ?_⟩
    refine p_ret (P := Is (.bl (grt B ps l))) (evp_ev (Evl.ev_notV (ev_anyL moP (Evl.ev_var rfl) hr0 (by omega) (fun p x => [some v, some b, some (.ref r), some (vI p.1), some (vI p.2)]) (fun _ _ => rfl) (fun p x H1 Q _ _ rp q => ?_) (fun p => standsB B (addL l p.1 p.2)) (fun p x hp rp => ?_)))) fun z H1 e1 hz => ?_
    · obtain ⟨t', rfl, h⟩ := rp
      exact go_2 (i := 3) (j := 4) h q
    · refine ev_evp (evp_call2 (P1 := NewLst EntR H (addL l p.1 p.2)) (evp_callA (vs := [v, vI p.1, vI p.2]) (vb3 rfl rfl rfl) (fun H5 e5 Q q => ⟨H, v, l, p.1, p.2, e5, rfl, seq_of hl, hs, sm p hp, fun z H6 e6 hz => q z H6 e6 hz⟩) (fun v Ha Hb Hc _ eb _ h => h.back eb)) (Evl.ev_var rfl) (fun z Ha Hb Hc ea eb ec hz Q q => ?_))
      refine ⟨z, addL l p.1 p.2, b, B, rfl, seq_of (moE.lst _ _ _ _ ec (newLst_at moE hz)), ?_, moBk _ _ _ _ ((ea.trans eb).trans ec) hB, ok.len, ok.few, fun H6 e6 => q _ H6 e6 rfl⟩
      unfold addL
      rw [(tsort_perm _).length_eq, List.length_append]
      have := (others_sub l p.1 p.2).length_le
      simp
      omega
    · subst hz
      exact k H1 e1
end
end K26
set_option Elab.async false
set_option linter.all false
set_option maxRecDepth 100000
set_option maxHeartbeats 4000000
/-! loads towards one neighbour -/
namespace Pr
open PySem PySem.Spec PyProof.Rows L2 TM Ep Nw
theorem filt_one : ∀ {N : List Nat} {t : Nat}, N.Nodup → t ∈ N → N.filter (fun u => decide (u = t)) = [t]
  | [], _, _, h => nomatch h
  | a :: N, t, nd, h => by
    obtain ⟨n1, n2⟩ := List.nodup_cons.mp nd
    rw [List.filter_cons]
    by_cases c : a = t
    · subst c
      rw [if_pos (decide_eq_true rfl)]
      have z : N.filter (fun u => decide (u = a)) = [] := List.filter_eq_nil_iff.mpr fun x hx e => n1 (of_decide_eq_true e ▸ hx)
      rw [z]
    · rw [if_neg (by simp [c])]
      rcases List.mem_cons.mp h with e | e
      · exact absurd e.symm c
      · exact filt_one n2 e
theorem pairsT_eq {N : List Nat} {t : Nat} (nd : N.Nodup) (ht : t ∈ N) : pairsT N t = (N.filter fun o => !decide (o = t)).map fun o => (o, t) := by
  have one : ∀ o, ((N.filter fun u => !decide (o = u)).map fun u => (o, u)).filter (fun p => decide (p.2 = t)) = if o = t then [] else [(o, t)] := fun o => by
    rw [List.filter_map]
    show ((N.filter fun u => !decide (o = u)).filter fun u => decide (u = t)).map _ = _
    rw [List.filter_filter]
    have e : (fun u => decide (u = t) && !decide (o = u)) = fun u => if o = t then false else decide (u = t) := funext fun u => by
      by_cases c : o = t
      · rw [if_pos c]
        by_cases d : u = t
        · have : o = u := by omega
          simp [this]
        · simp [d]
      · rw [if_neg c]
        by_cases d : u = t
        · have : ¬ o = u := by omega
          simp [d, this]
          omega
        · simp [d]
    rw [e]
    by_cases c : o = t
    · simp only [if_pos c]
      rw [List.filter_eq_nil_iff.mpr fun _ _ => by simp]
      rfl
    · simp only [if_neg c]
      rw [filt_one nd ht]
      rfl
  unfold pairsT pairsN
  rw [List.filter_flatMap]
  have go : ∀ M : List Nat, (M.flatMap fun o => ((N.filter fun u => !decide (o = u)).map fun u => (o, u)).filter (fun p => decide (p.2 = t))) = (M.filter fun o => !decide (o = t)).map fun o => (o, t) := by
    intro M
    induction M with
    | nil => rfl
    | cons a M ih =>
      rw [List.flatMap_cons, ih, one, List.filter_cons]
      by_cases c : a = t
      · simp [c]
      · simp [c]
  exact go N
theorem pairsT_mem {N : List Nat} {t : Nat} {p : Nat × Nat} : p ∈ pairsT N t ↔ p ∈ pairsN N ∧ p.2 = t := by
  unfold pairsT
  rw [List.mem_filter, decide_eq_true_eq]
theorem pairsT_len {N : List Nat} {t : Nat} (nd : N.Nodup) (ht : t ∈ N) : (pairsT N t).length + 1 = N.length := by
  rw [pairsT_eq nd ht, List.length_map]
  have h := (List.filter_append_perm (fun u => decide (u = t)) N).length_eq
  rw [List.length_append, filt_one nd ht] at h
  simp only [List.length_singleton] at h
  omega
theorem pairsT_ord {N : List Nat} {t : Nat} (nd : N.Nodup) (srt : N.Pairwise (· ≤ ·)) (ht : t ∈ N) : OrdP (pairsT N t) := by
  rw [pairsT_eq nd ht]
  unfold OrdP
  rw [List.pairwise_map]
  have : N.Pairwise (· < ·) := (srt.and nd).imp fun h => by
    have := h.2
    have := h.1
    omega
  exact (this.filter _).imp fun h => .inl h
theorem adj_srt (L : Lanes) (y : Nat) : (adj L y).Pairwise (· ≤ ·) := isort_sorted _
/-- what is known of a told load -/
structure TowL (B : Bk) (N : List Nat) (t : Nat) (l : Ld) : Prop where
  pr : ∀ e ∈ l, (e.1, e.2.1) ∈ pairsT N t ∧ 0 < e.2.2
  srt : l.Pairwise lt2
  st : standsB B l = true
theorem tl_nil {B : Bk} {N : List Nat} {t : Nat} {m : Ld} : Tl B (pairsT N t) [] m ↔ TowL B N t m := by
  constructor
  · rintro ⟨l, rfl, h1, h2, h3⟩
    exact ⟨h1, h2, h3⟩
  · rintro ⟨h1, h2, h3⟩
    exact ⟨m, rfl, h1, h2, h3⟩
theorem tow_mem {B : Bk} {N : List Nat} {t : Nat} {l : Ld} (g : GoodBk N B) (nd : N.Nodup) (srt : N.Pairwise (· ≤ ·)) (ht : t ∈ N) (s0 : standsB B [] = true) : l ∈ towP B N t ↔ TowL B N t l ∧ 0 < l.length := by
  unfold towP
  rw [lsort_mem, List.mem_filter, decide_eq_true_eq, standP_mem (fun a ha => (g.as_ a ha).most) _ _ (pairsT_ord nd srt ht) s0, tl_nil]
theorem empty_stands {B : Bk} {N : List Nat} (g : GoodBk N B) (h2 : 2 ≤ N.length) (nd : N.Nodup) : standsB B [] = true := by
  match N, h2, nd, g with
  | a :: b :: N, _, nd, g =>
    have ne : a ≠ b := fun e => by
      subst e
      simp at nd
    exact stands_empty (N := a :: b :: N) B ⟨(a, b, 1), g.single a b (mem_pairs.mpr ⟨by simp, by simp, ne⟩)⟩
theorem TowL.good {B : Bk} {N : List Nat} {t : Nat} {l : Ld} (h : TowL B N t l) : GoodL N l := ⟨fun e he => (pairsT_mem.mp (h.pr e he).1).1, fun e he => (h.pr e he).2, h.srt⟩
theorem TowL.carts {B : Bk} {N : List Nat} {t : Nat} {l : Ld} (g : GoodBk N B) (h : TowL B N t l) : carts l none none ≤ 6 := stands_carts (fun a ha => (g.as_ a ha).most) h.st
theorem TowL.len {B : Bk} {N : List Nat} {t : Nat} {l : Ld} (g : GoodBk N B) (h : TowL B N t l) : l.length ≤ 6 := by
  have h1 := h.carts g
  have : ∀ {m : Ld}, (∀ e ∈ m, 0 < e.2.2) → m.length ≤ TM.carts m none none := by
    intro m
    induction m with
    | nil => intro _; simp
    | cons e m ih =>
      intro k
      have h1 := ih fun x hx => k x (List.mem_cons_of_mem _ hx)
      have h2 := k e List.mem_cons_self
      rw [carts_cons, List.length_cons]
      simp only [okO, Bool.and_self, if_true]
      omega
  have := this fun e he => (h.pr e he).2
  omega
theorem TowL.sm {B : Bk} {N : List Nat} {t : Nat} {l : Ld} (g : GoodBk N B) (sN : ∀ x ∈ N, x < 1024) (h : TowL B N t l) : SmL l := fun e he => by
  obtain ⟨a, b, _⟩ := mem_pairs.mp (h.good.pr e he)
  have := sN _ a
  have := sN _ b
  have := one_carts he
  have := h.carts g
  unfold Sm
  exact ⟨by omega, by omega, by omega⟩
theorem TowL.add {B : Bk} {N : List Nat} {t : Nat} {l : Ld} (g : GoodBk N B) (sN : ∀ x ∈ N, x < 1024) (h : TowL B N t l) {p : Nat × Nat} (hp : p ∈ pairsN N) : SmL (others l p.1 p.2 ++ [(p.1, p.2, TM.carts l (some p.1) (some p.2) + 1)]) := by
  refine add_sm sN (h.sm g sN) hp ?_
  have h1 := h.carts g
  have : TM.carts l (some p.1) (some p.2) ≤ TM.carts l none none := by
    have : ∀ m : Ld, TM.carts m (some p.1) (some p.2) ≤ TM.carts m none none := by
      intro m
      induction m with
      | nil => exact Nat.le_refl _
      | cons e m ih =>
        rw [carts_cons, carts_cons]
        simp only [okO, Bool.and_self, if_true]
        have k : ∀ (b : Bool) (n : Nat), (if b = true then n else 0) ≤ n := fun b n => by cases b <;> simp
        exact Nat.add_le_add (k _ _) ih
    exact this l
  omega
end Pr

set_option Elab.async false
set_option linter.all false
set_option maxRecDepth 100000
set_option maxHeartbeats 4000000
namespace K26
open PySem PySem.Spec PyProof.Rows L2 TM Pr Ep Nw
open Evl (Ex Ev EvT EvA EvL EvU EvO)
section
variable {P : Program} {w : World} {K : PySem.W.Frag} {mg : Str → Option Value} {base : Heap} {A : Adr}
theorem evp_pairsTo {C : Addr} {σ : L2.St} {H : Hp} {tb : TA} {L : Lanes} {y t : Nat} {te : TE} (h : EvP te σ H (fun v _ Hb => ∃ c, v = .ref c ∧ CAt C Hb c L)) (h2 : EvA tb σ H [vI y, vI t]) (hy : y < L.length + 1) (hN : (adj L y).length ≤ 100) : EvP (tCall (spPairsTo C) [] E0 (tCons te tb)) σ H (NewLst PrR nul (pairsT (adj L y) t)) :=
  evp_callP (evap_cons1 h h2) fun vs H1 H2 e1 e12 hv Q q => by
    obtain ⟨u, Hb, rfl, eab, ⟨c, rfl, hC⟩, ebc⟩ := hv
    exact ⟨L, c, y, t, rfl, hC.ex ebc, hy, hN, fun z H3 e3 hz => q z H3 e3 (hz.back e12)⟩
theorem ok_standing_towards (T : Txt K mg A) : FnOk P w K mg base CX0 7 A.standing_towards A.standing_towards_fd ["web", "yard", "target"] (spTowards A.Web A.Country) := by
  refine T.F_standing_towards.ok sc_standing_towards (fun vs H Q E h => ?_) (fun cdv A' outer s H vs Q E hr h => ?_)
  · obtain ⟨L, vt, Bs, p, i, y, t, B, rfl, _⟩ := h
    rfl
  · obtain ⟨L, vt, Bs, p, i, y, t, B, rfl, hW, hG, hy, hB, G, ht, k⟩ := h
    refine ⟨_, (pss_cons (ps_set (i := 3) sc_standing_towards.nd rfl (Or.inl rfl) (pe_call (ok_standing_loads T) (hr.mono (by decide)) (by rfl) T.m_standing_loads T.F_standing_loads.kp T.b_standing_loads .nil pass0 (pa_cons (pe_meth (pv 0) T.cl_Web T.me_Web_book (ok_Web_book T) (hr.mono (by decide)) T.b_Web_book .nil pass0 (pa_cons (pv 1) pa_nil)) (pa_cons (pe_call (ok_pairs_towards T) (hr.mono (by decide)) (by rfl) T.m_pairs_towards T.F_pairs_towards.kp T.b_pairs_towards .nil pass0 (pa_cons (pe_prop (pv 0) T.cl_Web T.pr_Web_country (ok_Web_country T) (hr.mono (by decide)) T.b_Web_country .nil pass0 rfl) (pa_cons (pv 1) (pa_cons (pv 2) pa_nil)))) pa_nil)))) (pss_one (ps_ret (show PE _ _ (tCB (SD.rSortD K) _) from (pe_callB (id := "sorted") (SD.cr_sortD hr.units) (by rfl) T.n_sorted (by decide +kernel) (pa_cons (pe_lc (own := [("load", 4)]) rfl sc_standing_towards.nd (show PI _ _ _ (iList K _) from pi_list (pv 3)) (blkOk_by (N := n_standing_towards) (sc := defScope s_standing_towards) (by decide +kernel)) (fun _ _ _ _ _ => (pg_name (i := 4) sc_standing_towards.nd rfl (Or.inl rfl))) (fun _ _ _ _ _ => (pts_one (pt_cmpR op_gt (show PE _ _ (tCB (rLenA K) _) from (pe_callB (id := "len") call_len (by rfl) T.n_len (by decide +kernel) (pa_cons (pv 4) pa_nil))) pe_int (nomark _)))) (fun _ _ _ _ _ => (pv 4))) pa_nil)))))), ?_⟩
    have hym := List.mem_of_getElem? hy
    have hyl := (mem_yards.mp hym).1
    have ok := bkOk_of G
    have hd := hG.deg y
    have nd := hG.tr.adj_nodup y
    have pl := pairsT_len nd ht
    refine p_asg (P := NewLst (LstOf EntR) nul (standP B (pairsT (adj L y) t) [[]])) (evp_callP (evap_2 (evp_wb (Evl.ev_var rfl) (Evl.ev_var rfl) hW hy hB (by have := G.most; omega)) (fun v H1 H2 e1 e12 hv => evp_pairsTo (y := y) (t := t) (evp_wc (Evl.ev_var rfl) (hW.ex (e1.trans e12))) (vb2 rfl rfl) hyl (by omega))) (fun vs H1 H2 e1 e12 hv Q q => ?_)) fun v1 H1 e1 hv => ?_
    · obtain ⟨v, u, Hb, rfl, eab, hv, ebc, hu⟩ := hv
      obtain ⟨r, us, Hn, rfl, fr, mr, hr1, hpr⟩ := hu
      exact ⟨B, v, r, pairsT (adj L y) t, rfl, moBk _ _ _ _ ebc (bkL_R (newLst_at moAL hv)), ok, ⟨r, us, rfl, (mr _ _ hr1).1, moP.paired mr.ex hpr⟩, by omega, fun z H3 e3 hz => q z H3 e3 (hz.back e12)⟩
    obtain ⟨q, vs, Hn, rfl, fq, m, hq, hp⟩ := hv
    have sl := standP_len ok.six (pairsT (adj L y) t) [[]]
    have h7 : 7 ^ (pairsT (adj L y) t).length ≤ 7 ^ 3 := Nat.pow_le_pow_right (by decide) (by omega)
    have h343 : (7 : Nat) ^ 3 = 343 := by decide
    rw [List.length_singleton, Nat.one_mul] at sl
    show tRet _ _ ([some (.ref p), some (vI y), some (vI t), some (.ref q), none]) H1
    refine p_ret (EvP.mono m.ex (evp_sortL (B := Hn) (lcG (S := LstOf EntR) (R := LstOf EntR) moLL moLL (src_list (Evl.ev_var rfl) (Evl.sq_of hq)) hp (by omega) (fun l x => [some (.ref p), some (vI y), some (vI t), some (.ref q), some x]) (fun _ _ => rfl) (fun _ _ _ _ _ _ _ _ q => q) (fun l => decide (0 < l.length)) (fun l x _ re => ?_) (fun l => l) (fun l x _ re _ => ?_)))) fun z H2 e2 hz => ?_
    · exact Evl.et_is (Evl.et_test (Evl.ev_op (ev_lenS (Evl.ev_var rfl) (seq_of re)) Evl.ev_c rv_I0P)) (decide_eq_decide.mpr (by omega))
    · exact (evp_ev (Evl.ev_var rfl)).imp fun z Ha Hb ea eb h => by
        cases h
        exact newR_old re (ea.trans eb)
    · rw [List.map_id'] at hz
      exact k z H2 (e1.trans e2) (NewLst_chain m e1 hz)
theorem q_web {CW C : Addr} {σ : L2.St} {H : Hp} {ts : TA} {D : Ends} {tz : TS} {L : Lanes} {Bs : List Bk} {p : Addr} (h : EvA ts σ H [.ref p]) (hW : WAt CW C H p L Bs) (k : ∀ H1, Ex H H1 → tz D σ H1) : tSeq (tDrop (tCall (spCheckW CW C) [] E0 ts)) tz D σ H :=
  p_drop (P := Is .non) (evp_callA (vs := [.ref p]) h (fun H2 e2 Q q => ⟨L, Bs, p, rfl, hW.ex e2, fun H3 e3 => q _ H3 e3 rfl⟩) (fun _ _ _ _ _ _ _ h => h)) fun _ H1 e1 _ => k H1 e1
theorem evp_towards {CW C : Addr} {σ : L2.St} {H : Hp} {ts : TA} {L : Lanes} {vt : List Nat} {Bs : List Bk} {p : Addr} {i y t : Nat} {B : Bk} (h : EvA ts σ H [.ref p, vI y, vI t]) (hW : WAt CW C H p L Bs) (hG : Good vt L) (hy : (yardsL L)[i]? = some y) (hB : Bs[i]? = some B) (G : GoodBk (adj L y) B) (ht : t ∈ adj L y) : EvP (tCall (spTowards CW C) [] E0 ts) σ H (NewLst (LstOf EntR) nul (towP B (adj L y) t)) :=
  evp_callA (vs := [.ref p, vI y, vI t]) h (fun H2 e2 Q q => ⟨L, vt, Bs, p, i, y, t, B, rfl, hW.ex e2, hG, hy, hB, G, ht, fun z H3 e3 hz => q z H3 e3 hz⟩) (fun _ _ _ _ _ eb _ h => h.back eb)
theorem ok_loads_towards (T : Txt K mg A) : FnOk P w K mg base CX0 8 A.loads_towards A.loads_towards_fd ["web", "yard", "target"] (spTowards A.Web A.Country) := by
  refine T.F_loads_towards.ok sc_loads_towards (fun vs H Q E h => ?_) (fun cdv A' outer s H vs Q E hr h => ?_)
  · obtain ⟨L, vt, Bs, p, i, y, t, B, rfl, _⟩ := h
    rfl
  · obtain ⟨L, vt, Bs, p, i, y, t, B, rfl, hW, hG, hy, hB, G, ht, k⟩ := h
    refine ⟨_, (pss_cons (ps_expr (pe_call (ok_check_web T) (hr.mono (by decide)) (by rfl) T.m_check_web T.F_check_web.kp T.b_check_web .nil pass0 (pa_cons (pv 0) pa_nil))) (pss_cons (ps_expr (pe_call (ok_check_yard T) (hr.mono (by decide)) (by rfl) T.m_check_yard T.F_check_yard.kp T.b_check_yard .nil pass0 (pa_cons (pe_prop (pv 0) T.cl_Web T.pr_Web_country (ok_Web_country T) (hr.mono (by decide)) T.b_Web_country .nil pass0 rfl) (pa_cons (pv 1) pa_nil)))) (pss_cons (ps_expr (pe_call (ok_check_target T) (hr.mono (by decide)) (by rfl) T.m_check_target T.F_check_target.kp T.b_check_target .nil pass0 (pa_cons (pe_prop (pv 0) T.cl_Web T.pr_Web_country (ok_Web_country T) (hr.mono (by decide)) T.b_Web_country .nil pass0 rfl) (pa_cons (pv 1) (pa_cons (pv 2) pa_nil))))) (pss_one (ps_ret (pe_call (ok_standing_towards T) (hr.mono (by decide)) (by rfl) T.m_standing_towards T.F_standing_towards.kp T.b_standing_towards .nil pass0 (pa_cons (pv 0) (pa_cons (pv 1) (pa_cons (pv 2) pa_nil))))))))), ?_⟩
    have hym := List.mem_of_getElem? hy
    have hyl := (mem_yards.mp hym).1
    refine q_web (va1 rfl) hW fun H1 e1 => ?_
    refine p_drop (P := Is .non) (evp_call2 (evp_wc (Evl.ev_var rfl) (hW.ex e1)) (Evl.ev_var rfl) (fun v Ha Hb Hc ea eb ec hv Q q => ?_)) fun _ H2 e2 _ => ?_
    · obtain ⟨c, rfl, hC⟩ := hv
      exact ⟨L, c, y, rfl, hC.ex ec, hym, fun H3 e3 => q _ H3 e3 rfl⟩
    have x2 := e1.trans e2
    refine p_drop (P := Is .non) (evp_callP (evap_cons1 (evp_wc (Evl.ev_var rfl) (hW.ex x2)) (vb2 (a := vI y) (b := vI t) rfl rfl)) (fun vs Ha Hb ea eab hv Q q => ?_)) fun _ H3 e3 _ => ?_
    · obtain ⟨u, Hm, rfl, eam, ⟨c, rfl, hC⟩, emb⟩ := hv
      exact ⟨L, c, y, t, rfl, hC.ex emb, hyl, ht, fun H3 e3 => q _ H3 e3 rfl⟩
    have x3 := x2.trans e3
    exact p_ret (evp_towards (vb3 rfl rfl rfl) (hW.ex x3) hG hy hB G ht) fun z H4 e4 hz => k z H4 (x3.trans e4) (hz.back x3)
theorem ok_heaviest (T : Txt K mg A) : FnOk P w K mg base CX0 8 A.heaviest A.heaviest_fd ["web", "yard", "target"] (spHeaviest A.Web A.Country) := by
  refine T.F_heaviest.ok sc_heaviest (fun vs H Q E h => ?_) (fun cdv A' outer s H vs Q E hr h => ?_)
  · obtain ⟨L, vt, Bs, p, i, y, t, B, rfl, _⟩ := h
    rfl
  · obtain ⟨L, vt, Bs, p, i, y, t, B, rfl, hW, hG, hy, hB, G, ht, k⟩ := h
    refine ⟨_, (pss_cons (ps_expr (pe_call (ok_check_web T) (hr.mono (by decide)) (by rfl) T.m_check_web T.F_check_web.kp T.b_check_web .nil pass0 (pa_cons (pv 0) pa_nil))) (pss_cons (ps_expr (pe_call (ok_check_yard T) (hr.mono (by decide)) (by rfl) T.m_check_yard T.F_check_yard.kp T.b_check_yard .nil pass0 (pa_cons (pe_prop (pv 0) T.cl_Web T.pr_Web_country (ok_Web_country T) (hr.mono (by decide)) T.b_Web_country .nil pass0 rfl) (pa_cons (pv 1) pa_nil)))) (pss_cons (ps_expr (pe_call (ok_check_target T) (hr.mono (by decide)) (by rfl) T.m_check_target T.F_check_target.kp T.b_check_target .nil pass0 (pa_cons (pe_prop (pv 0) T.cl_Web T.pr_Web_country (ok_Web_country T) (hr.mono (by decide)) T.b_Web_country .nil pass0 rfl) (pa_cons (pv 1) (pa_cons (pv 2) pa_nil))))) (pss_cons (ps_asg (pe_tup (pa_cons (pe_meth (pv 0) T.cl_Web T.me_Web_book (ok_Web_book T) (hr.mono (by decide)) T.b_Web_book .nil pass0 (pa_cons (pv 1) pa_nil)) (pa_cons (pe_call (ok_pairs_towards T) (hr.mono (by decide)) (by rfl) T.m_pairs_towards T.F_pairs_towards.kp T.b_pairs_towards .nil pass0 (pa_cons (pe_prop (pv 0) T.cl_Web T.pr_Web_country (ok_Web_country T) (hr.mono (by decide)) T.b_Web_country .nil pass0 rfl) (pa_cons (pv 1) (pa_cons (pv 2) pa_nil)))) pa_nil))) (show PG _ _ (gTup K 2 _) from pg_tup rfl (pgs_cons (pg_name (i := 3) sc_heaviest.nd rfl (Or.inr rfl)) (pgs_cons (pg_name (i := 4) sc_heaviest.nd rfl (Or.inr rfl)) pgs_nil)))) (pss_one (ps_ret (pe_lc (own := [("load", 5)]) rfl sc_heaviest.nd (show PI _ _ _ (iList K _) from pi_list (pe_call (ok_standing_towards T) (hr.mono (by decide)) (by rfl) T.m_standing_towards T.F_standing_towards.kp T.b_standing_towards .nil pass0 (pa_cons (pv 0) (pa_cons (pv 1) (pa_cons (pv 2) pa_nil))))) (blkOk_by (N := n_heaviest) (sc := defScope s_heaviest) (by decide +kernel)) (fun _ _ _ _ _ => (pg_name (i := 5) sc_heaviest.nd rfl (Or.inl rfl))) (fun _ _ _ _ _ => (pts_one (pt_val (pe_call (ok_is_greatest T) (hr.mono (by decide)) (by rfl) T.m_is_greatest T.F_is_greatest.kp T.b_is_greatest .nil pass0 (pa_cons (pv 5) (pa_cons (pv 3) (pa_cons (pv 4) pa_nil))))))) (fun _ _ _ _ _ => (pv 5))))))))), ?_⟩
    have hym := List.mem_of_getElem? hy
    have hyl := (mem_yards.mp hym).1
    have ok := bkOk_of G
    have hd := hG.deg y
    have nd := hG.tr.adj_nodup y
    have pl := pairsT_len nd ht
    have hsm := hG.small
    have sN : ∀ x ∈ adj L y, x < 1024 := fun x hx => by
      have := (hG.vs_ x).mp (adj_vs hG hx)
      omega
    have h2l : 2 ≤ (adj L y).length := by
      rw [adj_length]
      exact (mem_yards.mp hym).2
    have s0 := empty_stands G h2l nd
    refine q_web (va1 rfl) hW fun H1 e1 => ?_
    refine p_drop (P := Is .non) (evp_call2 (evp_wc (Evl.ev_var rfl) (hW.ex e1)) (Evl.ev_var rfl) (fun v Ha Hb Hc ea eb ec hv Q q => ?_)) fun _ H2 e2 _ => ?_
    · obtain ⟨c, rfl, hC⟩ := hv
      exact ⟨L, c, y, rfl, hC.ex ec, hym, fun H3 e3 => q _ H3 e3 rfl⟩
    have x2 := e1.trans e2
    refine p_drop (P := Is .non) (evp_callP (evap_cons1 (evp_wc (Evl.ev_var rfl) (hW.ex x2)) (vb2 (a := vI y) (b := vI t) rfl rfl)) (fun vs Ha Hb ea eab hv Q q => ?_)) fun _ H3 e3 _ => ?_
    · obtain ⟨u, Hm, rfl, eam, ⟨c, rfl, hC⟩, emb⟩ := hv
      exact ⟨L, c, y, t, rfl, hC.ex emb, hyl, ht, fun H3 e3 => q _ H3 e3 rfl⟩
    have x3 := x2.trans e3
    refine p_tup2 (evp_wb (Evl.ev_var rfl) (Evl.ev_var rfl) (hW.ex x3) hy hB (by have := G.most; omega)) (fun v H4 e4 hv => evp_pairsTo (y := y) (t := t) (evp_wc (Evl.ev_var rfl) (hW.ex (x3.trans e4))) (vb2 rfl rfl) hyl (by omega)) fun v u H4 H5 H6 e4 hv e5 hu e6 => ?_
    have x6 := ((x3.trans e4).trans e5).trans e6
    have hb6 := moBk _ _ _ _ (e5.trans e6) (bkL_R (newLst_at moAL hv))
    obtain ⟨r, us, Hr, rfl, fr, mr, hr1, hpr⟩ := hu
    have hr6 : LstOf PrR H6 (.ref r) (pairsT (adj L y) t) := ⟨r, us, rfl, e6 _ _ (mr _ _ hr1).1, moP.paired (mr.ex.trans e6) hpr⟩
    clear hv mr
    show tRet _ _ ([some (.ref p), some (vI y), some (vI t), some v, some (.ref r), none]) H6
    refine p_ret (P := NewLst (LstOf EntR) nul ((towP B (adj L y) t).filter (grt B (pairsT (adj L y) t)))) (evp_lcN (P2 := fun v H1 H2 z _ H3 => ∃ Hn, Mk nul H1 H2 Hn ∧ NewLst (LstOf EntR) Hn ((towP B (adj L y) t).filter (grt B (pairsT (adj L y) t))) z H2 H3) (evp_towards (vb3 rfl rfl rfl) (hW.ex x6) hG hy hB G ht) (fun v7 H7 H8 e7 e8 hv => ?_) (fun v z H1 H2 H3 e1 e2 hv e3 hz => ?_)) fun z H7 e7 hz => k z H7 (x6.trans e7) (hz.back x6)
    · have mem : ∀ l ∈ towP B (adj L y) t, TowL B (adj L y) t l := fun l hl => ((tow_mem G nd (adj_srt L y) ht s0).mp hl).1
      have tl : (towP B (adj L y) t).length ≤ 50000 := by
        have sl := standP_len ok.six (pairsT (adj L y) t) [[]]
        have h7 : 7 ^ (pairsT (adj L y) t).length ≤ 7 ^ 3 := Nat.pow_le_pow_right (by decide) (by omega)
        have h343 : (7 : Nat) ^ 3 = 343 := by decide
        rw [List.length_singleton, Nat.one_mul] at sl
        unfold towP lsort
        rw [List.length_mergeSort]
        have := List.length_filter_le (fun l : Ld => decide (0 < l.length)) (standP B (pairsT (adj L y) t) [[]])
        omega
      obtain ⟨q, vs, Hn, rfl, fq, m, hq, hp⟩ := hv
      have x8 := e7.trans e8
      refine EvP.imp (lcGB (B := Hn) (S := LstOf EntR) (R := fun H' v l => LstOf EntR H' v l ∧ LstOf EntR Hn v l) (fun H1 H2 v l e h => ⟨moLL _ _ _ _ e h.1, h.2⟩) moLL m.ex (src_list Evl.ev_c (Evl.sq_of (m _ _ hq).1)) (pimp (fun v l h => ⟨moLL _ _ _ _ m.ex h, h⟩) hp) tl (fun l x => [some (.ref p), some (vI y), some (vI t), some v, some (.ref r), some x]) (fun _ _ => rfl) (fun _ _ _ _ _ _ _ _ q => q) (grt B (pairsT (adj L y) t)) (fun l x hl re => ?_) (fun l => l) (fun l x _ re _ => ?_)) (fun z Ha Hb ea eb hz => ?_)
      · refine Evl.et_B (ev_evp (evp_callA (vs := [x, v, .ref r]) (vb3 rfl rfl rfl) (fun H9 e9 Q q => ?_) (fun _ _ _ _ _ _ _ h => h)))
        have tm := mem l hl
        exact ⟨B, v, x, l, r, pairsT (adj L y) t, rfl, moBk _ _ _ _ (x8.trans e9) hb6, ok, moE.lst _ _ _ _ e9 re.1, by have := tm.len G; omega, fun p hp => tm.add G sN (pairsT_mem.mp hp).1, moP.lst _ _ _ _ (x8.trans e9) hr6, by omega, fun H10 e10 => q _ H10 e10 rfl⟩
      · exact (evp_ev (Evl.ev_var rfl)).imp fun z Ha Hb ea eb h => by
          cases h
          exact ⟨Hn, fun b o k => ⟨(ea.trans eb) _ _ (m _ _ k).1, .inl k⟩, re.2⟩
      · rw [List.map_id'] at hz
        exact ⟨Hn, m, hz.back ea⟩
    · obtain ⟨Hn, m, hz⟩ := hz
      exact NewLst_chain m e2 hz
end
end K26
set_option Elab.async false
set_option linter.all false
set_option maxRecDepth 100000
set_option maxHeartbeats 4000000
/-! a list of what was found and a heap of what is still to be gone on from -/
namespace Pr
open PySem PySem.Spec PyProof.Rows L2 TM Ep Nw
open Evl (Ex Ev EvT EvA EvL EvU EvO)
def StkR : Rep (Ld × Nat) := fun H v x => ∃ t w, v = .ref t ∧ H t = some (.tup [w, vI x.2]) ∧ LstOf EntR H w x.1
theorem moStk : Mono StkR := fun H H' v x e ⟨t, w, r, k, h⟩ => ⟨t, w, r, e _ _ k, moLL _ _ _ _ e h⟩
structure St3 (H0 H : Hp) (fl lf : Addr) (Hn : Hp) (ws us : List V) (Fs : List Ld) (Ls : List (Ld × Nat)) : Prop where
  ex : Ex H0 H
  hf : H fl = some (.lst ws)
  hl : H lf = some (.lst us)
  mk_ : Mk nul H0 H Hn
  nf : Hn fl = none
  nl : Hn lf = none
  pf : Paired (LstOf EntR Hn) ws Fs
  pl : Paired (StkR Hn) us Ls
  ff : H0 fl = none
  fl_ : H0 lf = none
  ne : fl ≠ lf
section
variable {H0 H H2 Hn G : Hp} {fl lf : Addr} {ws us : List V} {Fs : List Ld} {Ls : List (Ld × Nat)}
theorem St3.byEx (S : St3 H0 H fl lf Hn ws us Fs Ls) (e : Ex H H2) : St3 H0 H2 fl lf Hn ws us Fs Ls :=
  { S with ex := S.ex.trans e, hf := e _ _ S.hf, hl := e _ _ S.hl, mk_ := S.mk_.on e }
theorem St3.grow (S : St3 H0 H fl lf Hn ws us Fs Ls) (e : Ex H H2) (m : Mk Hn H H2 G) (eG : Ex Hn G) : St3 H0 H2 fl lf G ws us Fs Ls :=
  have no : ∀ {b : Addr} {xs : List V}, H b = some (.lst xs) → Hn b = none → G b = none := fun {b xs} h h2 => by
    cases c : G b with
    | none => rfl
    | some o =>
      rcases (m b o c).2 with z | z
      · rw [h2] at z; cases z
      · rw [h] at z; cases z
  { S with ex := S.ex.trans e, hf := e _ _ S.hf, hl := e _ _ S.hl, mk_ := Mk_chain S.mk_ S.ex m, nf := no S.hf S.nf, nl := no S.hl S.nl, pf := moLL.paired eG S.pf, pl := moStk.paired eG S.pl }
theorem mk_upd (m : Mk nul H0 H Hn) {b : Addr} {o : HO} (h : Hn b = none) : Mk nul H0 (upd H b o) Hn := fun c u k => ⟨by rw [upd_ne (fun z => by rw [z, h] at k; cases k)]; exact (m c u k).1, (m c u k).2⟩
theorem St3.put (S : St3 H0 H fl lf Hn ws us Fs Ls) {v : V} {l : Ld} (hv : LstOf EntR Hn v l) : St3 H0 (upd H fl (.lst (ws ++ [v]))) fl lf Hn (ws ++ [v]) us (Fs ++ [l]) Ls :=
  { S with ex := S.ex.mut S.ff, hf := upd_same, hl := by rw [upd_ne S.ne.symm]; exact S.hl, mk_ := mk_upd S.mk_ S.nf, pf := papp S.pf (.cons hv .nil) }
theorem St3.pop {us' : List V} {Ls' : List (Ld × Nat)} (S : St3 H0 H fl lf Hn ws us Fs Ls) (pl : Paired (StkR Hn) us' Ls') : St3 H0 (upd H lf (.lst us')) fl lf Hn ws us' Fs Ls' :=
  { S with ex := S.ex.mut S.fl_, hf := by rw [upd_ne S.ne]; exact S.hf, hl := upd_same, mk_ := mk_upd S.mk_ S.nl, pl := pl }
theorem St3.push (S : St3 H0 H fl lf Hn ws us Fs Ls) {v : V} {l : Ld} {n : Nat} {t : Addr} (hv : LstOf EntR Hn v l) (ht : H t = none) : ∃ Hm, Ex Hn Hm ∧ St3 H0 (upd (upd H t (.tup [v, vI n])) lf (.lst (us ++ [.ref t]))) fl lf Hm ws (us ++ [.ref t]) Fs (Ls ++ [(l, n)]) := by
  have f0 := Evl.fresh_back S.ex ht
  obtain ⟨m2, ex2⟩ := S.mk_.put (o := .tup [v, vI n]) ht f0
  have tf : fl ≠ t := fun z => by rw [← z, S.hf] at ht; cases ht
  have tl : lf ≠ t := fun z => by rw [← z, S.hl] at ht; cases ht
  have S2 : St3 H0 (upd H t (.tup [v, vI n])) fl lf (upd Hn t (.tup [v, vI n])) ws us Fs Ls :=
    { S with ex := S.ex.trans (Ex.new ht), hf := by rw [upd_ne tf]; exact S.hf, hl := by rw [upd_ne tl]; exact S.hl, mk_ := m2, nf := by rw [upd_ne tf]; exact S.nf, nl := by rw [upd_ne tl]; exact S.nl, pf := moLL.paired ex2 S.pf, pl := moStk.paired ex2 S.pl }
  exact ⟨_, ex2, S2.pop (papp S2.pl (.cons ⟨t, v, rfl, upd_same, moLL _ _ _ _ ex2 hv⟩ .nil))⟩
theorem St3.done (S : St3 H0 H fl lf Hn ws us Fs Ls) : NewLst (LstOf EntR) nul Fs (.ref fl) H0 H :=
  ⟨fl, ws, upd Hn fl (.lst ws), rfl, S.ff, (fun b o k => by
    by_cases n : b = fl
    · subst n
      rw [upd_same] at k
      exact ⟨S.hf.trans k, .inr S.ff⟩
    · rw [upd_ne n] at k
      exact S.mk_ b o k), upd_same, moLL.paired (Ex.new S.nf) S.pf⟩
end
section
variable {K : PySem.W.Frag} {σ : L2.St} {H B : Hp} {te ta tb tc : TE}
theorem evp_stk {l : Ld} {n : Nat} (h : EvP ta σ H (NewR (LstOf EntR) B l)) (h2 : Ev tb σ H (vI n)) : EvP (tTup (tCons ta (tCons tb tNil))) σ H (NewR StkR B (l, n)) := fun H1 e Q q =>
  h H1 e _ fun v H2 e2 ⟨Hn, m, s⟩ => h2 H2 (e.trans e2) _ fun H3 e3 => ⟨(by show 2 ≤ sizeLine; decide), fun t ht => by
    have f1 := Evl.fresh_back (e2.trans e3) ht
    obtain ⟨m2, ex2⟩ := (m.on e3).put (o := .tup [v, vI n]) ht f1
    exact q _ _ ((e2.trans e3).trans (Ex.new ht)) ⟨_, m2, t, v, rfl, upd_same, moLL _ _ _ _ ex2 s⟩⟩
theorem p_parP {D : Ends} {tz : TS} {i j : Nat} {P1 P2 : VP} (ha : EvP ta σ H P1) (hb : ∀ v H1, Ex H H1 → P1 v H H1 → EvP tb σ H1 P2) (k : ∀ v u H1 H2, Ex H H1 → P1 v H H1 → Ex H1 H2 → P2 u H1 H2 → tz D ((σ.set i (some v)).set j (some u)) H2) : tSeq (tPar i j (tCons ta (tCons tb tNil))) tz D σ H := by
  unfold tSeq tPar tCons
  exact ha H (Ex.refl H) _ fun v H1 e1 p1 => hb v H1 e1 p1 H1 (Ex.refl _) _ fun u H2 e2 p2 => ⟨_, _, rfl, k v u H1 H2 e1 p1 e2 p2⟩
end
/-! the heap as data -/
def dS (x : Ld × Nat) : PyData := .tuple [.list (dEs x.1), .int (x.2 : Int)]
def dSs (L : List (Ld × Nat)) : List PyData := L.map dS
theorem dp_Ss {K : PySem.W.Frag} {H : Hp} : ∀ {us : List V} {Ls : List (Ld × Nat)}, Paired (StkR H) us Ls → DpAll K H us (dSs Ls)
  | _, _, .nil => .nil
  | _, _, .cons ⟨t, w, r, k, h⟩ p => by
    subst r
    exact .cons (.tup (Evl.st_of k) (.cons (dp_L h) (.cons (.int _) .nil))) (dp_Ss p)
theorem canLay_Ss : ∀ L : List (Ld × Nat), PyData.canLayAll0 (dSs L) = true
  | [] => by simp [dSs, PyData.canLayAll0]
  | a :: l => by
    have ih := canLay_Ss l
    have := canLay_Es a.1
    unfold dSs at ih ⊢
    simp [dS, PyData.canLayAll0, PyData.canLay0, ih, this]
theorem depth_Ss : ∀ L : List (Ld × Nat), PyData.depthAll (dSs L) ≤ 3
  | [] => by simp [dSs, PyData.depthAll]
  | a :: l => by
    have ih := depth_Ss l
    have := depth_Es a.1
    unfold dSs at ih ⊢
    simp only [List.map_cons, PyData.depthAll, dS, PyData.depth]
    omega
theorem shaped_S (L : List (Ld × Nat)) : SeqAt.shaped (.list (dSs L)) = true := by
  have h := depth_Ss L
  have h2 := canLay_Ss L
  unfold SeqAt.shaped
  simp only [PyData.canLay0, PyData.depth, h2, Bool.true_and]
  exact decide_eq_true (by omega)
theorem eqv_S_nil (L : List (Ld × Nat)) : PyData.eqv (.list (dSs L)) (.list []) = L.isEmpty := by
  cases L <;> simp [dSs, PyData.eqv, PyData.eqvAll]
theorem shaped_nil : SeqAt.shaped (.list []) = true := shaped_S []
/-- what is known of a load that is gone on from -/
def LdI (B : Bk) (ps : List (Nat × Nat)) (l : Ld) : Prop := (∀ e ∈ l, (e.1, e.2.1) ∈ ps ∧ 0 < e.2.2) ∧ standsB B l = true
theorem LdI.carts {B : Bk} {ps : List (Nat × Nat)} {l : Ld} (g : sm6 B) (h : LdI B ps l) : TM.carts l none none ≤ 6 := stands_carts g h.2
theorem len_carts {m : Ld} (k : ∀ e ∈ m, 0 < e.2.2) : m.length ≤ TM.carts m none none := by
  induction m with
  | nil => simp
  | cons e m ih =>
    have h1 := ih fun x hx => k x (List.mem_cons_of_mem _ hx)
    have h2 := k e List.mem_cons_self
    rw [carts_cons, List.length_cons]
    simp only [okO, Bool.and_self, if_true]
    omega
theorem LdI.len {B : Bk} {ps : List (Nat × Nat)} {l : Ld} (g : sm6 B) (h : LdI B ps l) : l.length ≤ 6 := by
  have := h.carts g
  have := len_carts fun e he => (h.1 e he).2
  omega
theorem carts_le (o t : Option Nat) (m : Ld) : TM.carts m o t ≤ TM.carts m none none := by
  induction m with
  | nil => exact Nat.le_refl _
  | cons e m ih =>
    rw [carts_cons, carts_cons]
    simp only [okO, Bool.and_self, if_true]
    have k : ∀ (b : Bool) (n : Nat), (if b = true then n else 0) ≤ n := fun b n => by cases b <;> simp
    exact Nat.add_le_add (k _ _) ih
theorem LdI.sm {B : Bk} {ps : List (Nat × Nat)} {l : Ld} (g : sm6 B) (sp : SmP ps) (h : LdI B ps l) : SmL l := fun e he => by
  have := sp _ (h.1 e he).1
  have := one_carts he
  have := h.carts g
  unfold Sm
  simp only at *
  exact ⟨by omega, by omega, by omega⟩
theorem LdI.add {B : Bk} {ps : List (Nat × Nat)} {l : Ld} (g : sm6 B) (sp : SmP ps) (h : LdI B ps l) {p : Nat × Nat} (hp : p ∈ ps) : SmL (others l p.1 p.2 ++ [(p.1, p.2, TM.carts l (some p.1) (some p.2) + 1)]) := fun e he => by
  rcases List.mem_append.mp he with c | c
  · exact h.sm g sp e (mem_others c).1
  · rw [List.mem_singleton.mp c]
    have := sp _ hp
    have := carts_le (some p.1) (some p.2) l
    have := h.carts g
    unfold Sm
    simp only
    omega
theorem LdI.more {B : Bk} {ps : List (Nat × Nat)} {l : Ld} (h : LdI B ps l) {p : Nat × Nat} (hp : p ∈ ps) (s : standsB B (addL l p.1 p.2) = true) : LdI B ps (addL l p.1 p.2) := by
  refine ⟨fun e he => ?_, s⟩
  unfold addL at he
  rw [(tsort_perm _).mem_iff] at he
  rcases List.mem_append.mp he with c | c
  · exact h.1 e (mem_others c).1
  · rw [List.mem_singleton.mp c]
    exact ⟨hp, Nat.succ_pos _⟩
theorem len_add (l : Ld) (o t : Nat) : (addL l o t).length ≤ l.length + 1 := by
  unfold addL
  rw [(tsort_perm _).length_eq, List.length_append]
  have := (others_sub l o t).length_le
  simp
  omega
def spStandingL : Sp := fun vs H Q _ => ∃ B b r ps, vs = [b, .ref r] ∧ LstOf AltL H b B ∧ BkOk B ∧ B.length ≤ 100 ∧ LstOf PrR H (.ref r) ps ∧ ps.length ≤ 3 ∧ SmP ps ∧ OrdP ps ∧ standsB B [] = true ∧ ∀ ls z H', ls.Perm (standP B ps [[]]) → Ex H H' → NewLst (LstOf EntR) nul ls z H H' → Q z H'
end Pr

set_option Elab.async false
set_option linter.all false
set_option maxRecDepth 100000
set_option maxHeartbeats 4000000
namespace K26
open PySem PySem.Spec PyProof.Rows L2 TM Pr Ep Nw
open Evl (Ex Ev EvT EvA EvL EvU EvO)
section
variable {P : Program} {w : World} {K : PySem.W.Frag} {mg : Str → Option Value} {base : Heap} {A : Adr}
theorem ok_l_standing (T : Txt K mg A) : FnOk P w K mg base CX0 3 A.l_standing A.l_standing_fd ["_law_book_here", "_law_pairs_here"] spStandingL := by
  refine T.F_l_standing.ok sc_l_standing (fun vs H Q E h => ?_) (fun cdv A' outer s H vs Q E hr h => ?_)
  · obtain ⟨B, b, r, ps, rfl, _⟩ := h
    rfl
  · obtain ⟨B, b, r, ps, rfl, hB, ok, hBl, hr0, hps, sp, op, s0, k⟩ := h
    refine ⟨_, (pss_cons (ps_par (i := 2) (j := 3) (by rfl) sc_l_standing.nd rfl rfl (by decide) rfl rfl (pa_cons (pe_lst pa_nil) (pa_cons (pe_lst (pa_cons (pe_tup (pa_cons (pe_lst pa_nil) (pa_cons pe_int pa_nil))) pa_nil)) pa_nil)) (by rfl)) (pss_cons (ps_while PassesOwn.never (show PT _ _ (tTest (tOp (rNeD K) _ _)) from pt_cmpR (op_neD hr.units) (pv 3) (pe_lst pa_nil) (nomark _)) (pss_cons (ps_asg (show PE _ _ (tBM0 K "list" rPop _) from pe_bm0 PySem.F.plainAttrs_list PySem.F.slot_list_pop PySem.F.type_list_pop mt_pop (pv 3)) (show PG _ _ (gTup K 2 _) from pg_tup rfl (pgs_cons (pg_name (i := 4) sc_l_standing.nd rfl (Or.inl rfl)) (pgs_cons (pg_name (i := 5) sc_l_standing.nd rfl (Or.inl rfl)) pgs_nil)))) (pss_cons (ps_expr (show PE _ _ (tBM K "list" rAppend _ _) from pe_bm PySem.F.plainAttrs_list PySem.F.slot_list_append PySem.F.type_list_append mt_append (pv 2) (pa_cons (pv 4) pa_nil))) (pss_one (ps_for PassesOwn.never rfl (pi_range2 (by rfl) T.n_range (pa_cons (pv 5) (pa_cons (show PE _ _ (tCB (rLenA K) _) from (pe_callB (id := "len") call_len (by rfl) T.n_len (by decide +kernel) (pa_cons (pv 1) pa_nil))) pa_nil))) (pg_name (i := 6) sc_l_standing.nd rfl (Or.inl rfl)) (pss_cons (ps_set (i := 7) sc_l_standing.nd rfl (Or.inl rfl) (pe_call (ok_l_more T) (hr.mono (by decide)) (by rfl) T.m_l_more T.F_l_more.kp T.b_l_more .nil pass0 (pa_cons (pv 4) (pa_cons (show PE _ _ (tOp (rIxT K) _ _) from pe_ix ix_tup (show PE _ _ (tOp (rIxL K) _ _) from pe_ix ix_list (pv 1) (pv 6) (fun _ _ => rfl)) pe_int (fun _ _ => rfl)) (pa_cons (show PE _ _ (tOp (rIxT K) _ _) from pe_ix ix_tup (show PE _ _ (tOp (rIxL K) _ _) from pe_ix ix_list (pv 1) (pv 6) (fun _ _ => rfl)) pe_int (fun _ _ => rfl)) pa_nil))))) (pss_one (ps_if (pt_val (pe_call (ok_l_stands T) (hr.mono (by decide)) (by rfl) T.m_l_stands T.F_l_stands.kp T.b_l_stands .nil pass0 (pa_cons (pv 0) (pa_cons (pv 7) pa_nil)))) (pss_one (ps_expr (show PE _ _ (tBM K "list" rAppend _ _) from pe_bm PySem.F.plainAttrs_list PySem.F.slot_list_append PySem.F.type_list_append mt_append (pv 3) (pa_cons (pe_tup (pa_cons (pv 7) (pa_cons (pv 6) pa_nil))) pa_nil)))) pss_nil)))))))) (pss_one (ps_ret (pv 2))))), ?_⟩
    have g6 := ok.six
    obtain ⟨r', rs, rr, hrs, hpr⟩ := id hr0
    cases rr
    have hrl : rs.length = ps.length := PySem.Paired.length hpr
    refine p_parP (P1 := NewLst (LstOf EntR) nul []) (P2 := NewLst StkR nul [([], 0)]) evp_nilB (fun _ _ _ _ => evp_lst1B moStk (evp_stk (EvP.imp (evp_nilB (S := EntR) (B := nul)) fun _ _ _ _ _ h => h.r) (n := 0) Evl.ev_c)) fun v u H1 H2 e1 hv e2 hu => ?_
    obtain ⟨fl, ws, Hf, rfl, ff, mf, hf, hpf⟩ := hv
    obtain ⟨lf, us, Hl, rfl, fl_, ml, hl, hpl⟩ := hu
    have nfl : fl ≠ lf := fun z => by
      rw [z] at hf
      rw [(mf _ _ hf).1] at fl_
      cases fl_
    have S0 : ∃ Hn, St3 H H2 fl lf Hn [] us [] [([], 0)] := by
      cases hpf
      -- what is new of the heap, without the list itself
      refine ⟨fun b => if b = lf then none else Hl b, ⟨e1.trans e2, e2 _ _ (mf _ _ hf).1, (ml _ _ hl).1, fun b o z => ?_, ?_, if_pos rfl, .nil, ?_, ff, Evl.fresh_back e1 fl_, nfl⟩⟩
      · by_cases n : b = lf
        · rw [if_pos n] at z; cases z
        · rw [if_neg n] at z
          exact (ml.back e1) b o z
      · rw [if_neg nfl]
        cases z : Hl fl with
        | none => rfl
        | some o =>
          rcases (ml fl o z).2 with y | y
          · cases y
          · rw [(mf _ _ hf).1] at y
            cases y
      · cases hpl with
        | cons h1 h2 =>
          cases h2
          obtain ⟨t, w', rr, ht, q', qs, rw', hq, hqe⟩ := h1
          cases rr; cases rw'
          cases hqe
          have nt : t ≠ lf := fun z => by rw [z, hl] at ht; cases ht
          have nq : q' ≠ lf := fun z => by
            rw [z, hl] at hq
            cases hq
          refine .cons ⟨t, .ref q', rfl, (if_neg nt).trans ht, q', [], rfl, (if_neg nq).trans hq, .nil⟩ .nil
    obtain ⟨Hn0, S0⟩ := S0
    show tSeq (tWhile _ _) _ _ ([some b, some (.ref r), some (.ref fl), some (.ref lf), none, none, none, none]) H2
    refine Evl.q_while (fun n σ' H' => ∃ Hn ws us Fs Ls y4 y5 y6 y7, σ' = [some b, some (.ref r), some (.ref fl), some (.ref lf), y4, y5, y6, y7] ∧ St3 H H' fl lf Hn ws us Fs Ls ∧ (Fs ++ Ls.flatMap (due B ps)).Perm (due B ps ([], 0)) ∧ (∀ x ∈ Ls, LdI B ps x.1 ∧ x.2 ≤ ps.length) ∧ n = (Ls.flatMap (due B ps)).length) (due B ps ([], 0)).length
      ⟨Hn0, [], us, [], [([], 0)], none, none, none, none, rfl, S0, by simp, fun x hx => by rw [List.mem_singleton.mp hx]; exact ⟨⟨fun _ h => (nomatch h), s0⟩, Nat.zero_le _⟩, by simp⟩ (fun n σ' H3 h => ?_)
    obtain ⟨Hn, ws, us, Fs, Ls, y4, y5, y6, y7, rfl, S, pm, hI, rfl⟩ := h
    have total : (standP B ps [[]]).length ≤ 343 := by
      have sl := standP_len g6 ps [[]]
      have h7 : 7 ^ ps.length ≤ 7 ^ 3 := Nat.pow_le_pow_right (by decide) hps
      have h343 : (7 : Nat) ^ 3 = 343 := by decide
      rw [List.length_singleton, Nat.one_mul] at sl
      omega
    have same : (due B ps ([], 0)).Perm (standP B ps [[]]) := goOn_standP g6 ps [] (fun _ h => (nomatch h)) op sp (fun _ h => (nomatch h)) .nil
    have flen : Fs.length + (Ls.flatMap (due B ps)).length ≤ 343 := by
      have := pm.length_eq
      rw [List.length_append] at this
      have := same.length_eq
      omega
    refine ⟨!Ls.isEmpty, Evl.et_test (fun H6 e6 Q' q' => ⟨_, rfl, (by show 0 ≤ sizeLine; decide), fun e he => ⟨.list (dSs Ls), .list [], .lst (Evl.sq_of ((Ex.new he) _ _ (e6 _ _ S.hl))) (dp_Ss (moStk.paired ((S.mk_.ex.trans e6).trans (Ex.new he)) S.pl)), .lst (Evl.sq_of upd_same) .nil, shaped_S _, shaped_nil, ?_⟩⟩), fun hb H6 e6 => ?_, fun hb H6 e6 => ?_⟩
    · rw [eqv_S_nil]
      exact q' _ (Ex.new he)
    · -- a turn
      obtain ⟨x, Ls', rfl⟩ : ∃ x Ls', Ls = Ls' ++ [x] := by
        rcases List.eq_nil_or_concat Ls with e | ⟨a, b, e⟩
        · subst e; cases hb
        · exact ⟨b, a, by rw [e, List.concat_eq_append]⟩
      obtain ⟨l, f⟩ := x
      obtain ⟨Ix0, hfl0⟩ := hI (l, f) (by simp)
      have Ix : LdI B ps l := Ix0
      have hfl : f ≤ ps.length := hfl0
      clear Ix0 hfl0
      have dp : due B ps (l, f) = l :: (kidsI B ps l f).flatMap (due B ps) := due_pop g6 (x := (l, f)) Ix.2 hfl
      have S6 := S.byEx e6
      obtain ⟨us', u, rfl, pu', pu⟩ : ∃ us' u, us = us' ++ [u] ∧ Paired (StkR Hn) us' Ls' ∧ StkR Hn u (l, f) := by
        have := S.pl
        clear S S6 hI pm hb dp flen
        induction Ls' generalizing us with
        | nil =>
          cases this with
          | cons h1 h2 =>
            cases h2
            exact ⟨[], _, rfl, .nil, h1⟩
        | cons a L ih =>
          cases this with
          | cons h1 h2 =>
            obtain ⟨us', u, e, p1, p2⟩ := ih _ h2
            subst e
            exact ⟨_ :: us', u, rfl, .cons h1 p1, p2⟩
      obtain ⟨t, wl, rfl, ht, hwl⟩ := pu
      refine ⟨fun σ2 H7 => ∃ Hn ws us Fs Ls y4 y5 y6 y7, σ2 = [some b, some (.ref r), some (.ref fl), some (.ref lf), y4, y5, y6, y7] ∧ St3 H H7 fl lf Hn ws us Fs Ls ∧ (Fs ++ Ls.flatMap (due B ps)).Perm (due B ps ([], 0)) ∧ (∀ x ∈ Ls, LdI B ps x.1 ∧ x.2 ≤ ps.length) ∧ (Ls.flatMap (due B ps)).length < ((Ls' ++ [(l, f)]).flatMap (due B ps)).length, fun σ2 H7 ⟨Hn, ws, us, Fs, Ls, y4, y5, y6, y7, h1, h2, h3, h4, h5⟩ => ⟨_, h5, Hn, ws, us, Fs, Ls, y4, y5, y6, y7, h1, h2, h3, h4, rfl⟩, ?_⟩
      -- load, first = left.pop()
      refine ⟨_, rfl, .inl ⟨rfl, _, .inl (.inl S6.hl)⟩, lf, _, .ref t, rfl, rfl, S6.hl, by simp, ?_⟩
      rw [List.dropLast_concat]
      have S7 := S6.pop pu'
      refine go_2 (i := 4) (j := 5) ((S7.mk_ _ _ ht).1) ?_
      generalize upd H6 lf (.lst us') = H7 at S7
      -- found.append(load)
      have lw : ws.length = Fs.length := PySem.Paired.length S.pf
      refine ⟨_, rfl, .inl ⟨rfl, _, .inl (.inl S7.hf)⟩, _, rfl, fl, ws, wl, rfl, rfl, S7.hf, szN (by omega), ?_⟩
      have S8 := S7.put hwl
      generalize upd H7 fl (.lst (ws ++ [wl])) = H8 at S8
      -- the pairs from there on
      have hr8 : ∀ {H9 : Hp}, Ex H H9 → LstOf PrR H9 (.ref r) ps := fun e => moP.lst _ _ _ _ e hr0
      dsimp only
      show tFor _ _ _ _ ([some b, some (.ref r), some (.ref fl), some (.ref lf), some wl, some (vI f), y6, y7]) H8
      refine Evl.s_forR2 (lo := (f : Int)) (n := (ps.length : Int)) (Evl.ea_cons (Evl.ev_var rfl) (Evl.ea_cons (ev_lenS (Evl.ev_var rfl) (seq_of (hr8 S8.ex))) Evl.ea_nil)) ⟨by omega, by omega, by omega, by omega⟩ (fun i σ' H' => ∃ Hn us y6 y7, σ' = [some b, some (.ref r), some (.ref fl), some (.ref lf), some wl, some (vI f), y6, y7] ∧ St3 H H' fl lf Hn (ws ++ [wl]) us (Fs ++ [l]) (Ls' ++ ((List.range' f i).filter fun i => standsB B (addL l (ps.getD i (0, 0)).1 (ps.getD i (0, 0)).2)).map fun i => (addL l (ps.getD i (0, 0)).1 (ps.getD i (0, 0)).2, i)) ∧ LstOf EntR Hn wl l)
        (fun H9 e9 => ⟨Hn, us', y6, y7, rfl, by simpa using S8.byEx e9, hwl⟩) (fun i σ' H9 hi h => ?_) (fun σ' H9 h => ?_)
      · obtain ⟨Hn9, us9, y6, y7, rfl, S9, hw9⟩ := h
        have hat : f + i < ps.length := by omega
        have ei : V.int ((f : Int) + (i : Int)) = vI (f + i) := by show V.int _ = V.int _; congr 1
        show tSeq (tAsg _ _) _ _ ([some b, some (.ref r), some (.ref fl), some (.ref lf), some wl, some (vI f), some (V.int ((f : Int) + (i : Int))), y7]) H9
        rw [ei]
        have hp : ps[f + i]? = some (ps.getD (f + i) (0, 0)) := by
          rw [List.getD_eq_getElem?_getD, List.getElem?_eq_getElem hat]
          rfl
        obtain ⟨xv, hxv, tp, rfl, htp⟩ := piy hpr hp
        have mp := List.mem_of_getElem? hp
        generalize eg : ps.getD (f + i) (0, 0) = p at hp htp mp
        have ix : ∀ {j : Nat} {z : V} {H10 : Hp}, Ex H9 H10 → ([vI p.1, vI p.2] : List V)[j]? = some z → Ev (tOp (rIxT K) (tOp (rIxL K) (tVar 1) (tVar 6)) (tC (.int (j : Int)))) [some b, some (.ref r), some (.ref fl), some (.ref lf), some wl, some (vI f), some (vI (f + i)), y7] H10 z := fun {j z H10} e10 g =>
          ev_ixT (Evl.ev_op (Evl.ev_var rfl) (Evl.ev_var rfl) (Evl.rv_ixL (Evl.sq_of ((S9.ex.trans e10) _ _ hrs)) (at_of rfl hxv))) ((S9.ex.trans e10) _ _ htp) g
        have sm := Ix.add g6 sp mp
        have ln : l.length ≤ 6 := Ix.len g6
        refine p_asg (P := NewLst EntR Hn9 (addL l p.1 p.2)) (evp_callA (vs := [wl, vI p.1, vI p.2]) (Evl.ea_cons (Evl.ev_var rfl) (Evl.ea_cons (ix (j := 0) (Ex.refl _) rfl) (Evl.ea_cons (ix (j := 1) (Ex.refl _) rfl) Evl.ea_nil))) (fun H10 e10 Q q => ⟨Hn9, wl, l, p.1, p.2, S9.mk_.ex.trans e10, rfl, hw9, by omega, sm, fun z H11 e11 hz => q z H11 e11 hz⟩) (fun v Ha Hb Hc _ eb _ h => h.back eb)) fun z H10 e10 hz => ?_
        obtain ⟨qz, G, rfl, fqz, mG, bG, hqz⟩ := NewLst_all moE (S9.mk_.ex.trans e10) hz
        have S10 := S9.grow e10 mG bG
        show tIfS _ _ tNext _ ([some b, some (.ref r), some (.ref fl), some (.ref lf), some wl, some (vI f), some (vI (f + i)), some (.ref qz)]) H10
        have hB10 := moAL.lst _ _ _ _ S10.ex hB
        have la := len_add l p.1 p.2
        have rs' : List.range' f (i + 1) = List.range' f i ++ [f + i] := by
          rw [List.range'_concat, Nat.one_mul]
        refine Evl.s_when (b := standsB B (addL l p.1 p.2)) (Evl.et_B (ev_evp (evp_callA (vs := [b, .ref qz]) (vb2 rfl rfl) (fun H11 e11 Q q => ⟨b, B, .ref qz, addL l p.1 p.2, rfl, moAL.lst _ _ _ _ e11 hB10, hBl, ok.few, moE.lst _ _ _ _ (mG.ex.trans e11) hqz, by omega, fun H12 e12 => q _ H12 e12 rfl⟩) (fun _ _ _ _ _ _ _ h => h)))) (fun hb H11 e11 => ?_) (fun hb H11 e11 => ?_)
        · have S11 := S10.byEx e11
          have lu : us9.length ≤ 1000 := by
            rw [PySem.Paired.length S11.pl, List.length_append, List.length_map]
            have h1 := List.length_filter_le (fun i => standsB B (addL l (ps.getD i (0, 0)).1 (ps.getD i (0, 0)).2)) (List.range' f i)
            rw [List.length_range'] at h1
            have h2 : Ls'.length ≤ (Ls'.flatMap (due B ps)).length := by
              have : ∀ M : List (Ld × Nat), (∀ x ∈ M, LdI B ps x.1 ∧ x.2 ≤ ps.length) → M.length ≤ (M.flatMap (due B ps)).length := by
                intro M
                induction M with
                | nil => intro _; simp
                | cons a M ih =>
                  intro hM
                  have := ih fun x hx => hM x (List.mem_cons_of_mem _ hx)
                  obtain ⟨a1, a2⟩ := hM a List.mem_cons_self
                  rw [List.flatMap_cons, List.length_append, due_pop g6 a1.2 a2, List.length_cons, List.length_cons]
                  omega
              exact this Ls' fun x hx => hI x (List.mem_append_left _ hx)
            rw [List.flatMap_append, List.length_append] at flen
            omega
          refine ⟨_, rfl, .inl ⟨rfl, _, .inl (.inl S11.hl)⟩, ?_⟩
          refine ⟨_, rfl, _, rfl, (by show 2 ≤ sizeLine; decide), fun tn htn => ?_⟩
          obtain ⟨Hm, xm, Sp⟩ := S11.push (n := f + i) hqz htn
          refine ⟨lf, us9, .ref tn, rfl, rfl, ?_, szN (by omega), Hm, us9 ++ [.ref tn], some (vI (f + i)), some (.ref qz), rfl, ?_, ?_⟩
          · rw [upd_ne (fun z => by rw [← z, S11.hl] at htn; cases htn)]
            exact S11.hl
          · rw [rs', List.filter_append, List.map_append, ← List.append_assoc]
            rw [List.filter_cons, eg, if_pos hb]
            show St3 H _ fl lf Hm (ws ++ [wl]) _ (Fs ++ [l]) (_ ++ [(addL l (ps.getD (f + i) (0, 0)).1 (ps.getD (f + i) (0, 0)).2, f + i)])
            rw [eg]
            exact Sp
          · exact moE.lst _ _ _ _ (bG.trans xm) hw9
        · refine ⟨G, us9, _, _, rfl, ?_, moE.lst _ _ _ _ bG hw9⟩
          rw [rs', List.filter_append, List.filter_cons, eg, if_neg (by rw [hb]; decide), List.filter_nil, List.append_nil]
          exact S10.byEx e11
      · obtain ⟨Hn9, us9, y6, y7, rfl, S9, hw9⟩ := h
        have en : ((ps.length : Int) - (f : Int)).toNat = ps.length - f := by omega
        rw [en] at S9
        have ek : ((List.range' f (ps.length - f)).filter fun i => standsB B (addL l (ps.getD i (0, 0)).1 (ps.getD i (0, 0)).2)).map (fun i => (addL l (ps.getD i (0, 0)).1 (ps.getD i (0, 0)).2, i)) = kidsI B ps l f := rfl
        rw [ek] at S9
        refine ⟨Hn9, ws ++ [wl], us9, Fs ++ [l], Ls' ++ kidsI B ps l f, _, _, y6, y7, rfl, S9, ?_, fun x hx => ?_, ?_⟩
        · refine List.Perm.trans ?_ pm
          rw [List.flatMap_append, List.flatMap_append, List.flatMap_cons, List.flatMap_nil, List.append_nil, dp]
          rw [List.append_assoc]
          refine List.Perm.append_left Fs ?_
          exact (List.perm_middle (a := l) (l₁ := Ls'.flatMap (due B ps))).symm
        · rcases List.mem_append.mp hx with c | c
          · exact hI x (List.mem_append_left _ c)
          · unfold kidsI at c
            obtain ⟨j, hj, rfl⟩ := List.mem_map.mp c
            obtain ⟨j1, j2⟩ := List.mem_filter.mp hj
            obtain ⟨j3, j4⟩ := List.mem_range'_1.mp j1
            have hjl : j < ps.length := by omega
            have hp : ps[j]? = some (ps.getD j (0, 0)) := by
              rw [List.getD_eq_getElem?_getD, List.getElem?_eq_getElem hjl]
              rfl
            exact ⟨Ix.more (List.mem_of_getElem? hp) j2, Nat.le_of_lt hjl⟩
        · rw [List.flatMap_append, List.flatMap_append, List.flatMap_cons, List.flatMap_nil, List.append_nil, dp, List.length_append, List.length_append, List.length_cons]
          omega
    · have : Ls = [] := by
        cases Ls with
        | nil => rfl
        | cons a L => cases hb
      subst this
      rw [List.flatMap_nil, List.append_nil] at pm
      have S6 := S.byEx e6
      exact ⟨_, rfl, k Fs _ H6 (pm.trans same) S6.ex S6.done⟩
end
end K26

set_option Elab.async false
set_option linter.all false
set_option maxRecDepth 100000
set_option maxHeartbeats 4000000
namespace Pr
open PySem PySem.Spec PyProof.Rows L2 TM Ep Nw
open Evl (Ex Ev EvT EvA EvL EvU EvO)
structure NrOk (N : List Nat) : Prop where
  len : N.length ≤ 4
  two : 2 ≤ N.length
  nd : N.Nodup
  srt : N.Pairwise (· ≤ ·)
  sm : ∀ x ∈ N, x < 1024
def spTowardsL : Sp := fun vs H Q _ => ∃ B b r N t, vs = [b, .ref r, vI t] ∧ LstOf AltL H b B ∧ GoodBk N B ∧ NAt H r N ∧ NrOk N ∧ t ∈ N ∧ ∀ z H', Ex H H' → NewLst (LstOf EntR) nul (towP B N t) z H H' → Q z H'
def spHeaviestL : Sp := fun vs H Q _ => ∃ B b r N t, vs = [b, .ref r, vI t] ∧ LstOf AltL H b B ∧ GoodBk N B ∧ NAt H r N ∧ NrOk N ∧ t ∈ N ∧ ∀ z H', Ex H H' → NewLst (LstOf EntR) nul ((towP B N t).filter (grt B (pairsT N t))) z H H' → Q z H'
theorem pairsT_sm {N : List Nat} {t : Nat} (ok : NrOk N) (ht : t ∈ N) : SmP (pairsT N t) := fun p hp => by
  obtain ⟨a, b, _⟩ := mem_pairs.mp (pairsT_mem.mp hp).1
  exact ⟨ok.sm _ a, ok.sm _ b⟩
theorem tow_len {B : Bk} {N : List Nat} {t : Nat} (g : sm6 B) (ok : NrOk N) (ht : t ∈ N) : (towP B N t).length ≤ 343 := by
  have sl := standP_len g (pairsT N t) [[]]
  have pl := pairsT_len ok.nd ht
  have := ok.len
  have h7 : 7 ^ (pairsT N t).length ≤ 7 ^ 3 := Nat.pow_le_pow_right (by decide) (by omega)
  have h343 : (7 : Nat) ^ 3 = 343 := by decide
  rw [List.length_singleton, Nat.one_mul] at sl
  unfold towP lsort
  rw [List.length_mergeSort]
  have := List.length_filter_le (fun l : Ld => decide (0 < l.length)) (standP B (pairsT N t) [[]])
  omega
theorem q_forN {K : PySem.W.Frag} {σ : L2.St} {H : Hp} {D : Ends} {tl : TE} {g : TG} {tu tz : TS} {P : VP} (h : EvP tl σ H P) (k : ∀ v H1, Ex H H1 → P v H H1 → tSeq (tFor (iList K (tC v)) g tu) tz D σ H1) : tSeq (tFor (iList K tl) g tu) tz D σ H :=
  h H (Ex.refl _) _ fun v H1 e p => k v H1 e p
end Pr
namespace K26
open PySem PySem.Spec PyProof.Rows L2 TM Pr Ep Nw
open Evl (Ex Ev EvT EvA EvL EvU EvO)
section
variable {P : Program} {w : World} {K : PySem.W.Frag} {mg : Str → Option Value} {base : Heap} {A : Adr}
theorem ok_l_towards (T : Txt K mg A) : FnOk P w K mg base CX0 4 A.l_towards A.l_towards_fd ["_law_book_here", "_law_near", "_law_target"] spTowardsL := by
  refine T.F_l_towards.ok sc_l_towards (fun vs H Q E h => ?_) (fun cdv A' outer s H vs Q E hr h => ?_)
  · obtain ⟨B, b, r, N, t, rfl, _⟩ := h
    rfl
  · obtain ⟨B, b, r, N, t, rfl, hB, gB, hN, ok, ht, k⟩ := h
    refine ⟨_, (pss_cons (ps_setLc (i := 3) (own := [("_law_pair", 4)]) rfl sc_l_towards.nd rfl rfl (sw_true rfl rfl rfl (by decide +kernel)) (show PI _ _ _ (iList K _) from pi_list (pe_call (ok_l_pairs T) (hr.mono (by decide)) (by rfl) T.m_l_pairs T.F_l_pairs.kp T.b_l_pairs .nil pass0 (pa_cons (pv 1) pa_nil))) (blkOk_by (N := n_l_towards) (sc := defScope s_l_towards) (by decide +kernel)) (fun _ _ _ _ _ => (pg_name (i := 4) sc_l_towards.nd rfl (Or.inl rfl))) (fun _ _ _ _ _ => (pts_one (pt_cmpR op_eq (show PE _ _ (tOp (rIxT K) _ _) from pe_ix ix_tup (pv 4) pe_int (fun _ _ => rfl)) (pv 2) (nomark _)))) (fun _ _ _ _ _ => (pv 4))) (pss_one (ps_ret (show PE _ _ (tCB (SD.rSortD K) _) from (pe_callB (id := "sorted") (SD.cr_sortD hr.units) (by rfl) T.n_sorted (by decide +kernel) (pa_cons (pe_lc (own := [("_law_load", 5)]) rfl sc_l_towards.nd (show PI _ _ _ (iList K _) from pi_list (pe_call (ok_l_standing T) (hr.mono (by decide)) (by rfl) T.m_l_standing T.F_l_standing.kp T.b_l_standing .nil pass0 (pa_cons (pv 0) (pa_cons (pv 3) pa_nil)))) (blkOk_by (N := n_l_towards) (sc := defScope s_l_towards) (by decide +kernel)) (fun _ _ _ _ _ => (pg_name (i := 5) sc_l_towards.nd rfl (Or.inl rfl))) (fun _ _ _ _ _ => (pts_one (show PT _ _ (tTest (tOp (rNeD K) _ _)) from pt_cmpR (op_neD hr.units) (pv 5) (pe_lst pa_nil) (nomark _)))) (fun _ _ _ _ _ => (pv 5))) pa_nil)))))), ?_⟩
    have bok := bkOk_of gB
    have pl := pairsT_len ok.nd ht
    have nl := ok.len
    refine p_asg (P := fun v _ Hb => LstOf PrR Hb v (pairsT N t)) (evp_lcN (P := NewLst PrR H (pairsN N)) (P2 := fun v H1 H2 z _ H3 => LstOf PrR H3 z (pairsT N t)) (evp_callA (vs := [.ref r]) (va1 rfl) (fun H2 e2 Q q => ⟨H, r, N, e2, rfl, hN, by omega, fun z H3 e3 hz => q z H3 e3 hz⟩) (fun v Ha Hb Hc _ eb _ h => h.back eb)) (fun v H1 H2 e1 e2 hv => ?_) (fun v z H1 H2 H3 e1 e2 hv e3 hz => hz)) fun v1 H1 e1 hv => ?_
    · obtain ⟨q, vs, Hn, rfl, fq, m, hq, hp⟩ := hv
      have hl : (pairsN N).length ≤ 50000 := by
        have := pairs_len (N := N) (by omega)
        omega
      refine EvP.imp (lcG (S := PrR) (R := PrR) moP moP (src_list Evl.ev_c (Evl.sq_of (m _ _ hq).1)) (moP.paired m.ex hp) hl (fun p x => [some b, some (.ref r), some (vI t), none, some x, none]) (fun _ _ => rfl) (fun _ _ _ _ _ _ _ _ q => q) (fun p => decide (p.2 = t)) (fun p x _ re => ?_) (fun p => p) (fun p x _ re _ => ?_)) (fun z Ha Hb ea eb hz => ?_)
      · obtain ⟨t', rfl, h⟩ := re
        exact Evl.et_is (Evl.et_test (Evl.ev_op (ev_ixT (K := K) (j := 1) (Evl.ev_var rfl) h rfl) (Evl.ev_var rfl) (Evl.rv_eq rfl))) eqN
      · exact (evp_ev (Evl.ev_var rfl)).imp fun z Ha Hb ea eb h => by
          cases h
          exact newR_old re (ea.trans eb)
      · rw [List.map_id'] at hz
        exact newLst_at moP hz
    obtain ⟨q, vs, rfl, hq, hp⟩ := hv
    show tRet _ _ ([some b, some (.ref r), some (vI t), some (.ref q), none, none]) H1
    have s0 := empty_stands gB ok.two ok.nd
    refine p_ret (P := NewLst (LstOf EntR) nul (towP B N t)) (evp_sortLP (evp_lcN (P := fun v Ha Hb => ∃ ls, List.Perm ls (standP B (pairsT N t) [[]]) ∧ NewLst (LstOf EntR) nul ls v Ha Hb) (P2 := fun v H1 H2 z _ H3 => ∃ Hn ls, List.Perm ls (standP B (pairsT N t) [[]]) ∧ Mk nul H1 H2 Hn ∧ NewLst (LstOf EntR) Hn (ls.filter fun l => decide (0 < l.length)) z H2 H3) (evp_callA (vs := [b, .ref q]) (vb2 rfl rfl) (fun H2 e2 Q q' => ⟨B, b, q, pairsT N t, rfl, moAL.lst _ _ _ _ (e1.trans e2) hB, bok, by have := gB.most; omega, moP.lst _ _ _ _ e2 ⟨q, vs, rfl, hq, hp⟩, by omega, pairsT_sm ok ht, pairsT_ord ok.nd ok.srt ht, s0, fun ls z H3 pm e3 hz => q' z H3 e3 ⟨ls, pm, hz⟩⟩) (fun v Ha Hb Hc _ eb _ ⟨ls, pm, h⟩ => ⟨ls, pm, h.back eb⟩)) (fun v H2 H3 e2 e3 hv => ?_) (fun v z H2 H3 H4 e2 e3 hv e4 hz => ?_))) fun z H2 e2 hz => k z H2 (e1.trans e2) (hz.back e1)
    · obtain ⟨ls, pm, q2, vs2, Hn, rfl, fq2, m, hq2, hp2⟩ := hv
      have ll : ls.length ≤ 50000 := by
        have sl := standP_len bok.six (pairsT N t) [[]]
        have h7 : 7 ^ (pairsT N t).length ≤ 7 ^ 3 := Nat.pow_le_pow_right (by decide) (by omega)
        have h343 : (7 : Nat) ^ 3 = 343 := by decide
        rw [List.length_singleton, Nat.one_mul] at sl
        rw [pm.length_eq]
        omega
      refine EvP.imp (EvP.mono m.ex (lcG (S := LstOf EntR) (R := LstOf EntR) moLL moLL (src_list Evl.ev_c (Evl.sq_of hq2)) hp2 ll (fun p x => [some b, some (.ref r), some (vI t), some (.ref q), none, some x]) (fun _ _ => rfl) (fun _ _ _ _ _ _ _ _ q => q) (fun l => decide (0 < l.length)) (fun l x _ re => ?_) (fun p => p) (fun p x _ re _ => ?_))) (fun z Ha Hb ea eb hz => ?_)
      · refine Evl.et_is (Evl.et_test (b := !l.isEmpty) (fun H6 e6 Q' q' => ⟨_, rfl, (by show 0 ≤ sizeLine; decide), fun e he => ⟨dL l, .list [], dp_L (moLL _ _ _ _ (e6.trans (Ex.new he)) re), .lst (Evl.sq_of upd_same) .nil, shaped_L _, shaped_nil, ?_⟩⟩)) ?_
        · unfold dL
          rw [eqv_L_nil]
          exact q' _ (Ex.new he)
        · cases l <;> simp
      · exact (evp_ev (Evl.ev_var rfl)).imp fun z Ha Hb ea eb h => by
          cases h
          exact newR_old re (ea.trans eb)
      · rw [List.map_id'] at hz
        exact ⟨Hn, ls, pm, m, hz.back ea⟩
    · obtain ⟨Hn, ls, pm, m, hz⟩ := hz
      exact ⟨_, pm.filter _, NewLst_chain m e3 hz⟩
theorem ok_l_heaviest (T : Txt K mg A) : FnOk P w K mg base CX0 5 A.l_heaviest A.l_heaviest_fd ["_law_book_here", "_law_near", "_law_target"] spHeaviestL := by
  refine T.F_l_heaviest.ok sc_l_heaviest (fun vs H Q E h => ?_) (fun cdv A' outer s H vs Q E hr h => ?_)
  · obtain ⟨B, b, r, N, t, rfl, _⟩ := h
    rfl
  · obtain ⟨B, b, r, N, t, rfl, hB, gB, hN, ok, ht, k⟩ := h
    refine ⟨_, (pss_cons (ps_set (i := 3) sc_l_heaviest.nd rfl (Or.inl rfl) (pe_lst pa_nil)) (pss_cons (ps_for PassesOwn.never rfl (show PI _ _ _ (iList K _) from pi_list (pe_call (ok_l_towards T) (hr.mono (by decide)) (by rfl) T.m_l_towards T.F_l_towards.kp T.b_l_towards .nil pass0 (pa_cons (pv 0) (pa_cons (pv 1) (pa_cons (pv 2) pa_nil))))) (pg_name (i := 4) sc_l_heaviest.nd rfl (Or.inr rfl)) (pss_cons (ps_setLc (i := 5) (own := [("_law_origin", 6)]) rfl sc_l_heaviest.nd rfl rfl (sw_true rfl rfl rfl (by decide +kernel)) (show PI _ _ _ (iList K _) from pi_list (pv 1)) (blkOk_by (N := n_l_heaviest) (sc := defScope s_l_heaviest) (by decide +kernel)) (fun _ _ _ _ _ => (pg_name (i := 6) sc_l_heaviest.nd rfl (Or.inl rfl))) (fun _ _ _ _ _ => (pts_one (pt_cmpR op_ne (pv 6) (pv 2) (nomark _)))) (fun _ _ _ _ _ => (pe_call (ok_l_stands T) (hr.mono (by decide)) (by rfl) T.m_l_stands T.F_l_stands.kp T.b_l_stands .nil pass0 (pa_cons (pv 0) (pa_cons (pe_call (ok_l_more T) (hr.mono (by decide)) (by rfl) T.m_l_more T.F_l_more.kp T.b_l_more .nil pass0 (pa_cons (pv 4) (pa_cons (pv 6) (pa_cons (pv 2) pa_nil)))) pa_nil))))) (pss_one (ps_if (pt_not (pt_val (show PE _ _ (tCB (rAny K) _) from (pe_callB (id := "any") (cr_any rfl) (by rfl) T.n_any (by decide +kernel) (pa_cons (pv 5) pa_nil))))) (pss_one (ps_expr (show PE _ _ (tBM K "list" rAppend _ _) from pe_bm PySem.F.plainAttrs_list PySem.F.slot_list_append PySem.F.type_list_append mt_append (pv 3) (pa_cons (pv 4) pa_nil)))) pss_nil)))) (pss_one (ps_ret (pv 3))))), ?_⟩
    have bok := bkOk_of gB
    have nl := ok.len
    have s0 := empty_stands gB ok.two ok.nd
    have tl := tow_len bok.six ok ht
    refine p_asg (evp_lst Evl.ea_nil (by show 0 ≤ 100000; decide)) fun v1 H1 e1 hv => ?_
    obtain ⟨fl, rfl, ff, hf⟩ := hv
    show tSeq (tFor _ _ _) _ _ ([some b, some (.ref r), some (vI t), some (.ref fl), none, none, none]) H1
    refine q_forN (P := NewLst (LstOf EntR) nul (towP B N t)) (evp_callA (vs := [b, .ref r, vI t]) (vb3 rfl rfl rfl) (fun H2 e2 Q q => ⟨B, b, r, N, t, rfl, moAL.lst _ _ _ _ (e1.trans e2) hB, gB, (hN.ex e1).ex e2, ok, ht, fun z H3 e3 hz => q z H3 e3 hz⟩) (fun v Ha Hb Hc _ eb _ h => h.back eb)) fun v2 H2 e2 hv => ?_
    obtain ⟨q, vs, Hn, rfl, fq, m, hq, hp⟩ := hv
    have nf : Hn fl = none := by
      cases z : Hn fl with
      | none => rfl
      | some o =>
        rcases (m fl o z).2 with y | y
        · cases y
        · rw [hf] at y; cases y
    have G0 : GwS (LstOf EntR) nul H H2 fl Hn [] [] := ⟨nulE, e1.trans e2, e2 _ _ hf, m.back e1, nf, .nil, ff⟩
    have hvl : vs.length = (towP B N t).length := PySem.Paired.length hp
    refine Evl.q_forL (a := q) (xs := vs) Evl.ev_c (Evl.sq_of (m _ _ hq).1) (fun i σ' H' => ∃ ws y4 y5, σ' = [some b, some (.ref r), some (vI t), some (.ref fl), y4, y5, none] ∧ GwS (LstOf EntR) nul H H' fl Hn ws (((towP B N t).take i).filter (grt B (pairsT N t))))
      (fun H3 e3 => ⟨[], none, none, rfl, by simpa using G0.byEx e3⟩) (fun i σ' H' _ h => ?_) (fun i x σ' H3 hx h => ?_) (fun σ' H3 h => ?_)
    · obtain ⟨ws, y4, y5, rfl, G⟩ := h
      exact Evl.sq_of (G.mk_ _ _ hq).1
    · obtain ⟨ws, y4, y5, rfl, G⟩ := h
      obtain ⟨l, hl, rl⟩ := pix hp hx
      have ml := List.mem_of_getElem? hl
      have tm := ((tow_mem gB ok.nd ok.srt ht s0).mp ml).1
      have rl3 := moLL _ _ _ _ G.mk_.ex rl
      have ln := tm.len gB
      show tSeq (tAsg _ _) _ _ ([some b, some (.ref r), some (vI t), some (.ref fl), some x, y5, none]) H3
      have hN3 : NAt H3 r N := hN.ex G.ex
      refine p_asg (P := NewL (((N.filter fun o => !decide (o = t)).map fun o => V.bl (standsB B (addL l o t))))) (lcW (R := NR) moN (src_list (Evl.ev_var rfl) (Evl.sq_of hN3)) (paired_N N) (by omega) (fun o x' => [some b, some (.ref r), some (vI t), some (.ref fl), some x, y5, some x']) (fun _ _ => rfl) (fun _ _ _ _ _ _ _ _ q => q) (fun o => !decide (o = t)) (fun o x' _ ro => ?_) (fun o => V.bl (standsB B (addL l o t))) (fun o x' mo ro hfo => ?_)) fun v5 H5 e5 hv => ?_
      · cases ro
        exact Evl.et_is (Evl.et_test (Evl.ev_op (Evl.ev_var rfl) (Evl.ev_var rfl) (Evl.rv_ne rfl))) (by rw [eqN])
      · cases ro
        have hot : o ≠ t := fun z => by rw [z] at hfo; simp at hfo
        have hpp : (o, t) ∈ pairsN N := mem_pairs.mpr ⟨mo, ht, hot⟩
        refine ev_evp (evp_call2' (Evl.ev_var rfl) (P1 := NewLst EntR H3 (addL l o t)) (evp_callA (vs := [x, vI o, vI t]) (vb3 rfl rfl rfl) (fun H6 e6 Q q => ⟨H3, x, l, o, t, e6, rfl, rl3, by omega, tm.add gB ok.sm (p := (o, t)) hpp, fun z H7 e7 hz => q z H7 e7 hz⟩) (fun v Ha Hb Hc _ eb _ h => h.back eb)) (fun z Ha Hb Hc ea eb ec hz Q q => ?_))
        have la := len_add l o t
        exact ⟨b, B, z, addL l o t, rfl, moAL.lst _ _ _ _ (G.ex.trans ((ea.trans eb).trans ec)) hB, by have := gB.most; omega, bok.few, newLst_at moE hz, by omega, fun H7 e7 => q _ H7 e7 rfl⟩
      obtain ⟨mr, rfl, fmr, hmr⟩ := hv
      have G5 := G.byEx e5
      show tIfS _ _ tNext _ ([some b, some (.ref r), some (vI t), some (.ref fl), some x, some (.ref mr), none]) H5
      have eg : grt B (pairsT N t) l = !(((N.filter fun o => !decide (o = t)).map fun o => standsB B (addL l o t)).any id) := by
        unfold grt
        rw [pairsT_eq ok.nd ht, List.any_map, List.any_map]
        rfl
      have tk := tk_more hl
      refine Evl.s_when (b := grt B (pairsT N t) l) (Evl.et_is (Evl.et_not (Evl.et_B (b := ((N.filter fun o => !decide (o = t)).map fun o => standsB B (addL l o t)).any id) (fun H6 e6 Q' q' => ⟨_, rfl, mr, (N.filter fun o => !decide (o = t)).map fun o => standsB B (addL l o t), rfl, ?_, q' H6 (Ex.refl _)⟩))) eg.symm) (fun hb H6 e6 => ?_) (fun hb H6 e6 => ?_)
      · rw [List.map_map]
        exact Evl.sq_of (e6 _ _ hmr)
      · have G6 := G5.byEx e6
        have lw : ws.length ≤ 343 := by
          rw [PySem.Paired.length G.pr]
          have := List.length_filter_le (grt B (pairsT N t)) ((towP B N t).take i)
          rw [List.length_take] at this
          omega
        refine ⟨_, rfl, .inl ⟨rfl, _, .inl (.inl G6.hf)⟩, _, rfl, fl, ws, x, rfl, rfl, G6.hf, szN (by omega), ws ++ [x], some x, some (.ref mr), rfl, ?_⟩
        rw [tk, List.filter_append, List.filter_cons, if_pos hb]
        exact G6.put rl
      · refine ⟨ws, some x, some (.ref mr), rfl, ?_⟩
        rw [tk, List.filter_append, List.filter_cons, if_neg (by rw [hb]; decide), List.filter_nil, List.append_nil]
        exact G5.byEx e6
    · obtain ⟨ws, y4, y5, rfl, G⟩ := h
      rw [hvl, List.take_length] at G
      exact ⟨_, rfl, k _ _ G.ex (G.done moLL)⟩
end
end K26
set_option Elab.async false
set_option linter.all false
set_option maxRecDepth 100000
set_option maxHeartbeats 4000000
/-! lists of loads as data; a heaviest one above each -/
namespace Pr
open PySem PySem.Spec PyProof.Rows L2 TM Ep Nw
open Evl (Ex Ev EvT EvA EvL EvU EvO)
def dLL (ls : List Ld) : PyData := .list (ls.map dL)
theorem eqv_Es : ∀ l m : Ld, PyData.eqvAll (dEs l) (dEs m) = decide (l = m)
  | [], [] => by simp [dEs, PyData.eqvAll]
  | [], b :: m => by simp [dEs, PyData.eqvAll]
  | a :: l, [] => by simp [dEs, PyData.eqvAll]
  | (a1, a2, a3) :: l, (b1, b2, b3) :: m => by
    have ih := eqv_Es l m
    have e : PyData.eqvAll (dEs ((a1, a2, a3) :: l)) (dEs ((b1, b2, b3) :: m)) = (((PyData.eqv (.int (a1 : Int)) (.int (b1 : Int))) && ((PyData.eqv (.int (a2 : Int)) (.int (b2 : Int))) && ((PyData.eqv (.int (a3 : Int)) (.int (b3 : Int))) && true))) && PyData.eqvAll (dEs l) (dEs m)) := by
      simp only [dEs, List.map_cons, dE, PyData.eqvAll]
      rw [show PyData.eqv (.tuple [.int (a1 : Int), .int (a2 : Int), .int (a3 : Int)]) (.tuple [.int (b1 : Int), .int (b2 : Int), .int (b3 : Int)]) = ((PyData.eqv (.int (a1 : Int)) (.int (b1 : Int))) && ((PyData.eqv (.int (a2 : Int)) (.int (b2 : Int))) && ((PyData.eqv (.int (a3 : Int)) (.int (b3 : Int))) && true))) by simp only [PyData.eqv, PyData.eqvAll]]
    rw [e, ih, eqv_nat, eqv_nat, eqv_nat, Bool.eq_iff_iff]
    simp only [Bool.and_eq_true, decide_eq_true_eq, List.cons.injEq, Prod.mk.injEq, and_true]
theorem eqv_dL (l m : Ld) : PyData.eqv (dL l) (dL m) = decide (l = m) := by
  unfold dL
  simp only [PyData.eqv]
  exact eqv_Es l m
theorem eqv_LL_refl : ∀ ls : List Ld, PyData.eqv (dLL ls) (dLL ls) = true := fun ls => by
  unfold dLL
  simp only [PyData.eqv]
  induction ls with
  | nil => simp [PyData.eqvAll]
  | cons a l ih => simp [PyData.eqvAll, eqv_dL, ih]
theorem eqv_LL_nil (ls : List Ld) : PyData.eqv (dLL ls) (.list []) = ls.isEmpty := by
  cases ls <;> simp [dLL, PyData.eqv, PyData.eqvAll]
theorem canLay_LL : ∀ ls : List Ld, PyData.canLayAll0 (ls.map dL) = true
  | [] => by simp [PyData.canLayAll0]
  | a :: l => by
    have ih := canLay_LL l
    have := canLay_Es a
    simp [PyData.canLayAll0, dL, PyData.canLay0, ih, this]
theorem depth_LL : ∀ ls : List Ld, PyData.depthAll (ls.map dL) ≤ 2
  | [] => by simp [PyData.depthAll]
  | a :: l => by
    have ih := depth_LL l
    have := depth_L a
    simp only [List.map_cons, PyData.depthAll]
    omega
theorem shaped_LL (ls : List Ld) : SeqAt.shaped (dLL ls) = true := by
  have h := depth_LL ls
  have h2 := canLay_LL ls
  unfold SeqAt.shaped dLL
  simp only [PyData.canLay0, PyData.depth, h2, Bool.true_and]
  exact decide_eq_true (by omega)
theorem dpx_LLs {K : PySem.W.Frag} {H : Hp} {vs : List V} {ls : List Ld} (h : Paired (LstOf EntR H) vs ls) : DpXA K H vs (ls.map dL) := by
  induction h with
  | nil => exact dpxA_nil
  | cons r _ ih => exact dpxA_cons (dpx_L r) ih
theorem dpx_LL {K : PySem.W.Frag} {H : Hp} {v : V} {ls : List Ld} (h : LstOf (LstOf EntR) H v ls) : DpX K H v (dLL ls) := by
  obtain ⟨p, vs, rfl, k, hp⟩ := h
  exact dpx_lst k (dpx_LLs hp)
theorem shw_LL {ls : List Ld} (h : ∀ l ∈ ls, Sml l ∧ l.length ≤ 6) : Shw (dLL ls) 3 (ls.length * 205) := by
  have := shwA_all (n := 2) (w := 204) (ds := ls.map dL) fun d hd => by
    obtain ⟨l, hl, r⟩ := List.mem_map.mp hd
    rw [← r]
    exact (shw_L (h l hl).1).up (Nat.le_refl _) (by have := (h l hl).2; omega)
  rw [List.length_map] at this
  exact shw_list this
section
variable {K : PySem.W.Frag} {σ : L2.St} {H : Hp} {te ta tb tc td : TE}
theorem rv_neD {d e : PyData} {u v : V} (h1 : DpX K H v d) (h2 : DpX K H u e) (s1 : SeqAt.shaped d = true) (s2 : SeqAt.shaped e = true) : Evl.RV (rNeD K) v u H (.bl (!(PyData.eqv d e))) := fun H1 e Q k => ⟨_, _, h1 H1 e, h2 H1 e, s1, s2, k H1 (Ex.refl _)⟩
theorem go_4 {i j l m : Nat} {t : Addr} {a b c d : V} {Q : L2.St → Hp → Prop} (h : H t = some (.tup [a, b, c, d])) (k : Q ((((σ.set i (some a)).set j (some b)).set l (some c)).set m (some d)) H) : gTup K 4 (gCons (gName i) (gCons (gName j) (gCons (gName l) (gCons (gName m) gNil)))) (.ref t) σ H Q :=
  ⟨t, _, rfl, Evl.st_of h, rfl, _, _, rfl, _, _, rfl, _, _, rfl, _, _, rfl, rfl, k⟩
theorem p_tup4 {D : Ends} {tz : TS} {i j l m : Nat} {x y : V} {P3 P4 : VP} (h1 : Ev ta σ H x) (h2 : Ev tb σ H y) (h3 : EvP tc σ H P3) (h4 : ∀ H1, Ex H H1 → EvP td σ H1 P4) (k : ∀ v u Ha H1 H2 H3, Ex H Ha → Ex Ha H1 → P3 v Ha H1 → Ex H1 H2 → P4 u H1 H2 → Ex H2 H3 → tz D ((((σ.set i (some x)).set j (some y)).set l (some v)).set m (some u)) H3) : tSeq (tAsg (tTup (tCons ta (tCons tb (tCons tc (tCons td tNil))))) (gTup K 4 (gCons (gName i) (gCons (gName j) (gCons (gName l) (gCons (gName m) gNil)))))) tz D σ H :=
  h1 H (Ex.refl _) _ fun Ha ea => h2 Ha ea _ fun Hb eb => (EvP.mono (ea.trans eb) h3).run fun v H1 e1 p1 => (h4 H1 ((ea.trans eb).trans e1)).run fun u H2 e2 p2 => ⟨(by show 4 ≤ sizeLine; decide), fun t ht => go_4 upd_same (k v u Hb H1 H2 _ (ea.trans eb) e1 p1 e2 p2 (Ex.new ht))⟩
theorem p_parM {D : Ends} {tz : TS} {i j : Nat} {P1 : VP} (ha : EvP ta σ H P1) (hb : ∀ v H1, Ex H H1 → P1 v H H1 → ∀ R : V → Hp → Prop, (∀ u H2, tz D ((σ.set i (some v)).set j (some u)) H2 → R u H2) → tb σ H1 R) : tSeq (tPar i j (tCons ta (tCons tb tNil))) tz D σ H := by
  unfold tSeq tPar tCons
  exact ha H (Ex.refl H) _ fun v H1 e1 p1 => hb v H1 e1 p1 _ fun u H2 h => ⟨_, _, rfl, h⟩
/-- xs + ys of two that are known -/
theorem evp_cat2 {β : Type} {S : Rep β} (mo : Mono S) {v u : V} {l m : List β} (h : Ev ta σ H v) (hl : LstOf S H v l) (h2 : Ev tb σ H u) (hm : LstOf S H u m) (hs : l.length + m.length ≤ 100000) : EvP (tOp rCat ta tb) σ H (NewLst S H (l ++ m)) := fun H1 e Q q =>
  h H1 e _ fun H2 e2 => h2 H2 (e.trans e2) _ fun H3 e3 => by
    obtain ⟨p, vs, rfl, k, hp⟩ := hl
    obtain ⟨p', vs', rfl, k', hp'⟩ := hm
    have l1 : vs.length = l.length := PySem.Paired.length hp
    have l2 : vs'.length = m.length := PySem.Paired.length hp'
    have x3 := (e.trans e2).trans e3
    refine ⟨p, p', vs, vs', rfl, rfl, x3 _ _ k, x3 _ _ k', szL (by omega), fun c hc => ?_⟩
    have f1 := Evl.fresh_back (e2.trans e3) hc
    have mk0 : Mk H H1 H3 H := fun b o z => ⟨x3 _ _ z, .inl z⟩
    obtain ⟨m2, ex2⟩ := mk0.put (o := .lst (vs ++ vs')) hc f1
    exact q _ _ ((e2.trans e3).trans (Ex.new hc)) ⟨c, _, _, rfl, f1, m2, upd_same, mo.paired ex2 (papp hp hp')⟩
end
/-! a heaviest one above -/
theorem within_self (l : Ld) : withinL l l = true := List.all_eq_true.mpr fun e he => decide_eq_true (carts_mem he)
theorem within_back {l m : Ld} {o t : Nat} (h : withinL (addL l o t) m = true) : withinL l m = true := by
  refine List.all_eq_true.mpr fun e he => decide_eq_true ?_
  have h' := fun x hx => of_decide_eq_true (List.all_eq_true.mp h x hx)
  by_cases c : e.1 = o ∧ e.2.1 = t
  · have := h' (o, t, TM.carts l (some o) (some t) + 1) (by
      unfold addL
      rw [(tsort_perm _).mem_iff]
      simp)
    have k := carts_mem he
    rw [c.1, c.2] at k ⊢
    simp only at this
    omega
  · refine h' e ?_
    unfold addL
    rw [(tsort_perm _).mem_iff]
    refine List.mem_append_left _ ?_
    unfold others
    refine List.mem_filter.mpr ⟨he, ?_⟩
    simp only [Bool.not_eq_true', Bool.and_eq_false_iff, decide_eq_false_iff_not]
    omega
theorem hv_above {B : Bk} {N : List Nat} {t : Nat} (g : GoodBk N B) (ok : NrOk N) (ht : t ∈ N) : ∀ (n : Nat) (l : Ld), TM.carts l none none + n = 7 → TowL B N t l → 0 < l.length → ∃ m ∈ (towP B N t).filter (grt B (pairsT N t)), withinL l m = true
  | 0, l, e, h, _ => by
    have := h.carts g
    omega
  | n + 1, l, e, h, hl => by
    have s0 := empty_stands g ok.two ok.nd
    cases c : grt B (pairsT N t) l with
    | true => exact ⟨l, List.mem_filter.mpr ⟨(tow_mem g ok.nd ok.srt ht s0).mpr ⟨h, hl⟩, c⟩, within_self l⟩
    | false =>
      unfold grt at c
      rw [Bool.not_eq_false', List.any_eq_true] at c
      obtain ⟨p, hp, sp⟩ := c
      have hpp := (pairsT_mem.mp hp).1
      have gl := h.good.add ok.sm (h.sm g ok.sm) (o := p.1) (t := p.2) hpp (by
        have := carts_le (some p.1) (some p.2) l
        have := h.carts g
        omega)
      have ha : TowL B N t (addL l p.1 p.2) := by
        refine ⟨fun e he => ⟨?_, gl.pos e he⟩, gl.srt, sp⟩
        unfold addL at he
        rw [(tsort_perm _).mem_iff] at he
        rcases List.mem_append.mp he with z | z
        · exact (h.pr e (mem_others z).1).1
        · rw [List.mem_singleton.mp z]
          exact hp
      have hc : TM.carts (addL l p.1 p.2) none none = TM.carts l none none + 1 := by
        rw [carts_add]
        simp [okO]
      have hn : 0 < (addL l p.1 p.2).length := by
        unfold addL
        rw [(tsort_perm _).length_eq, List.length_append]
        simp
      obtain ⟨m, hm, wm⟩ := hv_above g ok ht n (addL l p.1 p.2) (by omega) ha hn
      exact ⟨m, hm, within_back wm⟩
theorem tow_some {B : Bk} {N : List Nat} {t : Nat} (g : GoodBk N B) (ok : NrOk N) (ht : t ∈ N) : 0 < (towP B N t).length := by
  have s0 := empty_stands g ok.two ok.nd
  have pl := pairsT_len ok.nd ht
  have := ok.two
  obtain ⟨p, hp⟩ := List.exists_mem_of_length_pos (show 0 < (pairsT N t).length by omega)
  have hpp := (pairsT_mem.mp hp).1
  have : [(p.1, p.2, 1)] ∈ towP B N t := (tow_mem g ok.nd ok.srt ht s0).mpr ⟨⟨fun e he => by
    rw [List.mem_singleton.mp he]
    exact ⟨hp, Nat.one_pos⟩, List.pairwise_singleton _ _, g.single _ _ hpp⟩, Nat.one_pos⟩
  exact List.length_pos_of_mem this
end Pr

set_option Elab.async false
set_option linter.all false
set_option maxRecDepth 100000
set_option maxHeartbeats 4000000
namespace K26
open PySem PySem.Spec PyProof.Rows L2 TM Pr Ep Nw
open Evl (Ex Ev EvT EvA EvL EvU EvO)
section
variable {P : Program} {w : World} {K : PySem.W.Frag} {mg : Str → Option Value} {base : Heap} {A : Adr}
theorem KB_heaviest (T : Txt K mg A) : KBinds K A.heaviest_fd ["web", "yard", "target"] ["target", "yard", "web"] kgR kgRV := by
  obtain ⟨oc, od, kV, doc, pm, an, cdv, ct, osl, e, lk, hcd⟩ := T.F_heaviest.ex
  refine ⟨fun s us ws hk hl => ?_, kgR_rel⟩
  cases us with
  | cons u us => cases hl
  | nil =>
    have t : ws.reverse.length = 3 := hl
    rw [List.length_reverse] at t
    match ws, t with
    | [a, b, c], _ =>
      rw [e]
      exact BindsTo.of_eq rfl
theorem KB_loads_towards (T : Txt K mg A) : KBinds K A.loads_towards_fd ["web", "yard", "target"] ["target", "yard", "web"] kgR kgRV := by
  obtain ⟨oc, od, kV, doc, pm, an, cdv, ct, osl, e, lk, hcd⟩ := T.F_loads_towards.ex
  refine ⟨fun s us ws hk hl => ?_, kgR_rel⟩
  cases us with
  | cons u us => cases hl
  | nil =>
    have t : ws.reverse.length = 3 := hl
    rw [List.length_reverse] at t
    match ws, t with
    | [a, b, c], _ =>
      rw [e]
      exact BindsTo.of_eq rfl
theorem ok_l_right (T : Txt K mg A) : G8.FnOkG P w K mg base CX0 10 A.l_right A.l_right_fd ["_law_pot_here"] spRight := by
  refine G8.okG T.F_l_right sc_l_right (fun vs H Q E h => ?_) (fun cdv A' outer s H vs Q E hr hG h => ?_)
  · obtain ⟨p, rfl, _⟩ := h
    rfl
  · obtain ⟨p, rfl, hp, k⟩ := h
    refine ⟨_, (pss_cons (ps_set (i := 1) sc_l_right.nd rfl (Or.inl rfl) (pe_call (ok_l_renumbered T) (hr.mono (by decide)) (by rfl) T.m_l_renumbered T.F_l_renumbered.kp T.b_l_renumbered .nil pass0 (pa_cons (pv 0) (pa_cons (pe_call (ok_l_lanes T) (hr.mono (by decide)) (by rfl) T.m_l_lanes T.F_l_lanes.kp T.b_l_lanes .nil pass0 (pa_cons (pv 0) (pa_cons (pe_op op_add pe_int (pe_call (ok_l_draw T) (hr.mono (by decide)) (by rfl) T.m_l_draw T.F_l_draw.kp T.b_l_draw .nil pass0 (pa_cons (pv 0) (pa_cons pe_int pa_nil)))) pa_nil))) pa_nil)))) (pss_cons (ps_par3 (i := 2) (j := 3) (l := 4) rfl sc_l_right.nd rfl rfl rfl (by decide) (by decide) (by decide) rfl rfl rfl (pa_cons (pe_lock (pe_make T.mk_Country (ok_Country_init T) (hr.mono (by decide)) (by rfl) T.m_Country T.b_Country_init .nil pass0 (pa_cons (pv 1) pa_nil))) (pa_cons (pe_call (ok_l_yards T) (hr.mono (by decide)) (by rfl) T.m_l_yards T.F_l_yards.kp T.b_l_yards .nil pass0 (pa_cons (pv 1) pa_nil)) (pa_cons (pe_lst pa_nil) pa_nil))) (by rfl)) (pss_cons (ps_for PassesOwn.never rfl (show PI _ _ _ (iList K _) from pi_list (pv 3)) (pg_name (i := 5) sc_l_right.nd rfl (Or.inl rfl)) (pss_one (ps_expr (show PE _ _ (tBM K "list" rAppend _ _) from pe_bm PySem.F.plainAttrs_list PySem.F.slot_list_append PySem.F.type_list_append mt_append (pv 4) (pa_cons (pe_call (ok_l_book T) (hr.mono (by decide)) (by rfl) T.m_l_book T.F_l_book.kp T.b_l_book .nil pass0 (pa_cons (pv 0) (pa_cons (pe_call (ok_l_beside T) (hr.mono (by decide)) (by rfl) T.m_l_beside T.F_l_beside.kp T.b_l_beside .nil pass0 (pa_cons (pv 1) (pa_cons (pv 5) pa_nil))) (pa_cons (show PE _ _ (tOp (rIxL K) _ _) from pe_ix ix_list (pe_lst (pa_cons pe_int (pa_cons pe_int (pa_cons pe_int pa_nil)))) (pe_op op_sub (show PE _ _ (tCB (rLenA K) _) from (pe_callB (id := "len") call_len (by rfl) T.n_len (by decide +kernel) (pa_cons (pe_call (ok_l_beside T) (hr.mono (by decide)) (by rfl) T.m_l_beside T.F_l_beside.kp T.b_l_beside .nil pass0 (pa_cons (pv 1) (pa_cons (pv 5) pa_nil))) pa_nil))) pe_int) (fun _ _ => rfl)) pa_nil)))) pa_nil))))) (pss_cons (ps_par (i := 6) (j := 7) (by rfl) sc_l_right.nd rfl rfl (by decide) rfl rfl (pa_cons (pe_make T.mk_Web (ok_Web_init T) (hr.mono (by decide)) (by rfl) T.m_Web T.b_Web_init .nil pass0 (pa_cons (pv 2) (pa_cons (pv 4) pa_nil))) (pa_cons (pe_call (ok_l_draw T) (hr.mono (by decide)) (by rfl) T.m_l_draw T.F_l_draw.kp T.b_l_draw .nil pass0 (pa_cons (pv 0) (pa_cons (show PE _ _ (tCB (rLenA K) _) from (pe_callB (id := "len") call_len (by rfl) T.n_len (by decide +kernel) (pa_cons (pv 3) pa_nil))) pa_nil))) pa_nil)) (by rfl)) (pss_cons (ps_asg (pe_tup (pa_cons (show PE _ _ (tOp (rIxL K) _ _) from pe_ix ix_list (pv 3) (pv 7) (fun _ _ => rfl)) (pa_cons (show PE _ _ (tOp (rIxL K) _ _) from pe_ix ix_list (pv 4) (pv 7) (fun _ _ => rfl)) (pa_cons (pe_call (ok_l_beside T) (hr.mono (by decide)) (by rfl) T.m_l_beside T.F_l_beside.kp T.b_l_beside .nil pass0 (pa_cons (pv 1) (pa_cons (show PE _ _ (tOp (rIxL K) _ _) from pe_ix ix_list (pv 3) (pv 7) (fun _ _ => rfl)) pa_nil))) (pa_cons (pe_lst pa_nil) pa_nil))))) (show PG _ _ (gTup K 4 _) from pg_tup rfl (pgs_cons (pg_name (i := 5) sc_l_right.nd rfl (Or.inl rfl)) (pgs_cons (pg_name (i := 8) sc_l_right.nd rfl (Or.inl rfl)) (pgs_cons (pg_name (i := 9) sc_l_right.nd rfl (Or.inl rfl)) (pgs_cons (pg_name (i := 10) sc_l_right.nd rfl (Or.inl rfl)) pgs_nil)))))) (pss_cons (ps_for PassesOwn.never rfl (show PI _ _ _ (iList K _) from pi_list (pv 9)) (pg_name (i := 11) sc_l_right.nd rfl (Or.inl rfl)) (pss_cons (ps_par (i := 12) (j := 13) (by rfl) sc_l_right.nd rfl rfl (by decide) rfl rfl (pa_cons (pe_call (ok_l_towards T) (hr.mono (by decide)) (by rfl) T.m_l_towards T.F_l_towards.kp T.b_l_towards .nil pass0 (pa_cons (pv 8) (pa_cons (pv 9) (pa_cons (pv 11) pa_nil)))) (pa_cons (pe_call (ok_l_heaviest T) (hr.mono (by decide)) (by rfl) T.m_l_heaviest T.F_l_heaviest.kp T.b_l_heaviest .nil pass0 (pa_cons (pv 8) (pa_cons (pv 9) (pa_cons (pv 11) pa_nil)))) pa_nil)) (by rfl)) (pss_cons (ps_par (i := 14) (j := 15) (by rfl) sc_l_right.nd rfl rfl (by decide) rfl rfl (pa_cons (pe_call (ok_loads_towards T) (hr.mono (by decide)) (by rfl) T.m_loads_towards T.F_loads_towards.kp T.b_loads_towards .nil pass0 (pa_cons (pv 6) (pa_cons (pv 5) (pa_cons (pv 11) pa_nil)))) (pa_cons (G8.pe_callK0 (ok_heaviest T) (hr.mono (by decide)) (by rfl) T.m_heaviest T.F_heaviest.kp (KB_heaviest T) pass0 (pk_cons (pv 11) (pk_cons (pv 5) (pk_cons (pv 6) pk_nil)))) pa_nil)) (by rfl)) (pss_cons (ps_if (PW.pt (pw_or (pt_cmpR op_ne (show PE _ _ (tCB (G8.rRepr K) _) from (pe_callB (id := "repr") (G8.cr_repr hG hr.units) (by rfl) T.n_repr (by decide +kernel) (pa_cons (pv 14) pa_nil))) (show PE _ _ (tCB (G8.rRepr K) _) from (pe_callB (id := "repr") (G8.cr_repr hG hr.units) (by rfl) T.n_repr (by decide +kernel) (pa_cons (pv 12) pa_nil))) (nomark _)) (pw_or (pt_cmpR op_ne (show PE _ _ (tCB (G8.rRepr K) _) from (pe_callB (id := "repr") (G8.cr_repr hG hr.units) (by rfl) T.n_repr (by decide +kernel) (pa_cons (pv 15) pa_nil))) (show PE _ _ (tCB (G8.rRepr K) _) from (pe_callB (id := "repr") (G8.cr_repr hG hr.units) (by rfl) T.n_repr (by decide +kernel) (pa_cons (pv 13) pa_nil))) (nomark _)) (pw_or1 (show PT _ _ (tTest (tOp (rNeD K) _ _)) from pt_cmpR (op_neD hr.units) (pe_call (ok_heaviest T) (hr.mono (by decide)) (by rfl) T.m_heaviest T.F_heaviest.kp T.b_heaviest .nil pass0 (pa_cons (pv 6) (pa_cons (pv 5) (pa_cons (pv 11) pa_nil)))) (pv 15) (nomark _)))))) (pss_one (ps_ret pe_bl)) pss_nil) (pss_cons (ps_for PassesOwn.never rfl (show PI _ _ _ (iList K _) from pi_list (pv 14)) (pg_name (i := 16) sc_l_right.nd rfl (Or.inr rfl)) (pss_cons (ps_if (PW.pt (pw_or (show PT _ _ (tTest (tOp (rNotB) _ _)) from pt_cmpR op_notBl (pe_call (ok_lets T) (hr.mono (by decide)) (by rfl) T.m_lets T.F_lets.kp T.b_lets .nil pass0 (pa_cons (pv 6) (pa_cons (pv 5) (pa_cons (pv 16) pa_nil)))) pe_bl (nomark _)) (pw_or1 (show PT _ _ (tTest (tOp (rInD K) _ _)) from pt_cmpR (op_inD hr.units65) (pv 16) (pv 10) (by rfl))))) (pss_one (ps_ret pe_bl)) pss_nil) (pss_cons (ps_setLc (i := 17) (own := [("_law_other", 18)]) rfl sc_l_right.nd rfl rfl (sw_true rfl rfl rfl (by decide +kernel)) (show PI _ _ _ (iList K _) from pi_list (pv 15)) (blkOk_by (N := n_l_right) (sc := defScope s_l_right) (by decide +kernel)) (fun _ _ _ _ _ => (pg_name (i := 18) sc_l_right.nd rfl (Or.inr rfl))) (fun _ _ _ _ _ => (pts_one (pt_val (show PE _ _ (tCB (rAll K) _) from (pe_callB (id := "all") (cr_all rfl) (by rfl) T.n_all (by decide +kernel) (pa_cons (pe_lc (own := [("_law_row", 19)]) rfl sc_l_right.nd (show PI _ _ _ (iList K _) from pi_list (pv 16)) (blkOk_by (N := n_l_right) (sc := { kind := ScopeKind.function, names := [(Str.ofString ".0", NameKind.local), (Str.ofString "_law_other", NameKind.cell), (Str.ofString "all", NameKind.globalImplicit), (Str.ofString "_law_load", NameKind.cell)], isGenerator := false, isCoroutine := false }) (by decide +kernel)) (fun _ _ _ _ _ => (pg_name (i := 19) sc_l_right.nd rfl (Or.inl rfl))) (fun _ _ _ _ _ => pts_nil) (fun _ _ _ _ _ => (pe_cmpR op_le (show PE _ _ (tOp (rIxT K) _ _) from pe_ix ix_tup (pv 19) pe_int (fun _ _ => rfl)) (pe_call (ok_l_many T) (hr.mono (by decide)) (by rfl) T.m_l_many T.F_l_many.kp T.b_l_many .nil pass0 (pa_cons (pv 18) (pa_cons (show PE _ _ (tOp (rIxT K) _ _) from pe_ix ix_tup (pv 19) pe_int (fun _ _ => rfl)) (pa_cons (show PE _ _ (tOp (rIxT K) _ _) from pe_ix ix_tup (pv 19) pe_int (fun _ _ => rfl)) pa_nil)))) (nomark _)))) pa_nil)))))) (fun _ _ _ _ _ => (pv 18))) (pss_one (ps_if (PW.pt (pw_or (show PT _ _ (tTest (tOp (rEqD K) _ _)) from pt_cmpR (op_eqD hr.units) (pv 17) (pe_lst pa_nil) (nomark _)) (pw_or1 (show PT _ _ (tTest (tOp (rNotB) _ _)) from pt_cmpR op_notBl (pe_call (ok_is_at_most T) (hr.mono (by decide)) (by rfl) T.m_is_at_most T.F_is_at_most.kp T.b_is_at_most .nil pass0 (pa_cons (pv 2) (pa_cons (pv 5) (pa_cons (pv 16) (pa_cons (show PE _ _ (tOp (rIxL K) _ _) from pe_ix ix_list (pv 17) pe_int (fun _ _ => rfl)) pa_nil))))) pe_bl (nomark _))))) (pss_one (ps_ret pe_bl)) pss_nil))))) (pss_cons (ps_set (i := 10) sc_l_right.nd rfl (Or.inl rfl) (pe_op op_cat (pv 10) (pv 12))) (pss_cons (ps_expr (show PE _ _ (tBM K "list" rAppend _ _) from pe_bm PySem.F.plainAttrs_list PySem.F.slot_list_append PySem.F.type_list_append mt_append (show PE _ _ (tOp (rIxL K) _ _) from pe_ix ix_list (pv 14) pe_int (fun _ _ => rfl)) (pa_cons pe_non pa_nil))) (pss_cons (ps_expr (show PE _ _ (tBM K "list" rAppend _ _) from pe_bm PySem.F.plainAttrs_list PySem.F.slot_list_append PySem.F.type_list_append mt_append (pv 14) (pa_cons pe_non pa_nil))) (pss_cons (ps_expr (show PE _ _ (tBM K "list" rAppend _ _) from pe_bm PySem.F.plainAttrs_list PySem.F.slot_list_append PySem.F.type_list_append mt_append (pv 15) (pa_cons pe_non pa_nil))) (pss_one (ps_if (show PT _ _ (tTest (tOp (rNeD K) _ _)) from pt_cmpR (op_neD hr.units) (G8.pe_callK0 (ok_loads_towards T) (hr.mono (by decide)) (by rfl) T.m_loads_towards T.F_loads_towards.kp (KB_loads_towards T) pass0 (pk_cons (pv 11) (pk_cons (pv 5) (pk_cons (pv 6) pk_nil)))) (pv 12) (nomark _)) (pss_one (ps_ret pe_bl)) pss_nil))))))))))) (pss_one (ps_ret pe_bl)))))))), ?_⟩
    -- lanes
    refine ⟨_, rfl, _, rfl, _, rfl, p, 3, rfl, hp, by decide, by decide, fun d H1 hd hp1 e1 => ⟨1, (d : Int), rfl, rfl, p, 1 + d, congrArg (fun z => [V.ref p, V.int z]) (by omega), hp1, by omega, by omega, fun a0 L0 H2 Dn hL0 fa0 e2 hp2 => ⟨p, a0, L0, 1 + d, rfl, hp2, hL0, pot_new hp1 fa0, Dn, fun a L vt H3 G hL fa e3 hp3 _ => ?_⟩⟩⟩
    clear hL0 Dn e3 e2 e1
    have hsm := G.small
    have hym := G.most
    have nap : a ≠ p := pot_new hp2 fa
    dsimp only
    show tSeq (tPar3 _ _ _ _) _ _ ([some (.ref p), some (.ref a), none, none, none, none, none, none, none, none, none, none, none, none, none, none, none, none, none, none]) H3
    refine p_par3' (evp_lockB (L := L) hp3 fun Ha ea => evp_make ((evp_ev (Evl.ev_var rfl)).imp fun v Hb Hc eb ec h => ⟨a, h, ((hL.but hp3 nap).ex ea).ex (eb.trans ec)⟩) G) (fun v Hb eb _ => evp_callA (P := NewL (vIs (yardsL L))) (Evl.ea_cons (Evl.ev_var rfl) Evl.ea_nil) (fun H4 e4 Q q => ⟨L, a, rfl, hL.ex (eb.trans e4), hsm, fun q1 H5 e5 f5 h5 => q _ H5 e5 ⟨q1, rfl, f5, h5⟩⟩) (fun v H1 H2 H3 _ e12 _ h => newL_back e12 h)) (fun v u Ha Hb ea _ eb _ => evp_lst Evl.ea_nil (by show 0 ≤ 100000; decide)) (fun v u bv H4 H5 H6 e4 hv e5 hu e6 hb => ?_)
    obtain ⟨c, rfl, fc, hC⟩ := hv
    obtain ⟨yr, rfl, fy, hyr⟩ := hu
    obtain ⟨bl, rfl, fbl, hbl⟩ := hb
    have hp4 := hp3.ex e4
    have hp5 := hp4.ex e5
    have hp6 := hp5.ex e6
    have nyp : yr ≠ p := pot_new hp4 fy
    have nbp : bl ≠ p := pot_new hp5 fbl
    have xF : Ex (but H5 p) (but (but H6 p) bl) := fun b o h => by
      have n1 : b ≠ bl := fun w => by rw [w] at h; rw [but_ex _ _ h] at fbl; cases fbl
      exact but_ne (but_in e6 _ _ h) n1
    have hCF : CAt A.Country (but (but H6 p) bl) c L := (hC.ex (but_in e5)).ex xF
    have hLF : LanesAt (but (but H6 p) bl) a L := ((hL.but hp3 nap).ex (but_in (e4.trans e5))).ex xF
    have hyF := xF _ _ (but_ne hyr nyp)
    have eF : Ex (but (but H6 p) bl) (but H6 p) := but_ex
    have bF : (but (but H6 p) bl) bl = none := but_at
    have S0 : GvS (LstOf AltL) nul H5 H6 p bl nul [] [] := ⟨pot_some hp5, rfl, Ex.refl _, .of e6, hp6, hbl, fun b o h => (nomatch h), rfl, .nil, fbl, nbp⟩
    generalize but (but H6 p) bl = F at eF bF hCF hLF hyF
    clear xF hC hyr e4 hL hbl
    show tSeq (tFor _ _ _) _ _ ([some (.ref p), some (.ref a), some (.ref c), some (.ref yr), some (.ref bl), none, none, none, none, none, none, none, none, none, none, none, none, none, none, none]) H6
    -- books
    have hvl : (vIs (yardsL L)).length = (yardsL L).length := by unfold vIs; rw [List.length_map]
    refine Evl.q_forL (a := yr) (xs := vIs (yardsL L)) (Evl.ev_var rfl) (Evl.sq_of (but_ex _ _ (eF _ _ hyF))) (fun i σ' H' => ∃ y5 ws Hn Bs, σ' = [some (.ref p), some (.ref a), some (.ref c), some (.ref yr), some (.ref bl), y5, none, none, none, none, none, none, none, none, none, none, none, none, none, none] ∧ GvS (LstOf AltL) nul H5 H' p bl Hn ws Bs ∧ List.length Bs = i ∧ GoodBs L Bs ∧ Ex F (but H' p))
      (fun H2 e2 => ⟨none, [], nul, [], rfl, S0.byEx e2, rfl, fun j _ B _ h => (nomatch h), eF.trans (but_in e2)⟩) (fun i σ' H' _ h => ?_) (fun i x σ' H' hx h => ?_) (fun σ' H' h => ?_)
    · obtain ⟨y5, ws, Hn, Bs, rfl, S, _, _, e⟩ := h
      exact Evl.sq_of (but_ex _ _ (e _ _ hyF))
    · obtain ⟨y5, ws, Hn, Bs, rfl, S, hBl, gBs, e⟩ := h
      obtain ⟨y', hy', rfl⟩ := vIs_ix hx
      have my' := List.mem_of_getElem? hy'
      have ewl : ws.length = Bs.length := PySem.Paired.length S.pr
      have il := (List.getElem?_eq_some_iff.mp hy').1
      have hdg := G.deg y'
      have h2d : 2 ≤ (adj L y').length := by
        rw [adj_length]
        exact (mem_yards.mp my').2
      refine ⟨_, rfl, .inl ⟨rfl, _, .inl (.inl S.hf)⟩, _, rfl, _, rfl, _, rfl, L, a, y', rfl, (hLF.ex e).ex but_ex, hsm, fun nb H2 e2 fnb hnb => ?_⟩
      have S2 := S.byEx e2
      have e_2 := e.trans (but_in e2)
      have hix : Ev (tOp (rIxL K) (tLst (tCons (tC (.int 4)) (tCons (tC (.int 3)) (tCons (tC (.int 2)) tNil)))) (tOp (rI0 fun i j => V.int (i - j)) (tCB (rLenA K) (tCons (tCall spBeside [] E0 (tCons (tVar 1) (tCons (tVar 5) tNil))) tNil)) (tC (.int 2)))) [some (.ref p), some (.ref a), some (.ref c), some (.ref yr), some (.ref bl), some (vI y'), none, none, none, none, none, none, none, none, none, none, none, none, none, none] H2 (vI (6 - (adj L y').length)) := by
        have n2 : (adj L y').length = 2 ∨ (adj L y').length = 3 ∨ (adj L y').length = 4 := by omega
        refine ev_opP (y := .int (((adj L y').length : Int) - 2)) (evp_lst (vs := [.int 4, .int 3, .int 2]) (Evl.ea_cons Evl.ev_c (Evl.ea_cons Evl.ev_c (Evl.ea_cons Evl.ev_c Evl.ea_nil))) (by show 3 ≤ 100000; decide)) (Evl.ev_op (x := .int ((adj L y').length : Int)) (ev_evp (evp_cb1 (P := NewL (vIs (adj L y'))) (evp_callA (vs := [.ref a, vI y']) (Evl.ea_cons (Evl.ev_var rfl) (Evl.ea_cons (Evl.ev_var rfl) Evl.ea_nil)) (fun H4 e4 Q q => ⟨L, a, y', rfl, ((hLF.ex e_2).ex but_ex).ex e4, hsm, fun q1 H5 e5 f5 h5 => q _ H5 e5 ⟨q1, rfl, f5, h5⟩⟩) (fun v H1 H2 H3 _ e12 _ h => newL_back e12 h)) (fun v Ha Hb _ _ h Q q => ?_))) Evl.ev_c rv_I0P) (fun v Ha Hb ea eb h => ?_)
        · obtain ⟨q1, rfl, _, hq1⟩ := h
          exact ⟨_, _, rfl, .inl ⟨_, Evl.sq_of hq1, rfl⟩, q _ Hb (Ex.refl _) (by unfold vIs; rw [List.length_map]; rfl)⟩
        · obtain ⟨q1, rfl, _, hq1⟩ := h
          rcases n2 with n | n | n
          · rw [n]
            exact Evl.rv_ixL (Evl.sq_of hq1) (at_of (j := 0) rfl rfl)
          · rw [n]
            exact Evl.rv_ixL (Evl.sq_of hq1) (at_of (j := 1) rfl rfl)
          · rw [n]
            exact Evl.rv_ixL (Evl.sq_of hq1) (at_of (j := 2) rfl rfl)
      refine hix H2 (Ex.refl _) _ fun H2a e2a => ?_
      have S2a := S2.byEx e2a
      refine ⟨p, nb, adj L y', 6 - (adj L y').length, rfl, S2a.pot, e2a _ _ hnb, pot_new S.pot fnb, h2d, by omega, G.tr.adj_nodup _, by omega, by omega, fun v B H3 gB hv e3 hp3 _ => ?_⟩
      have S3 := S2a.byPot e3 hp3
      obtain ⟨Hv, mv, sv⟩ := hv.r
      have dv : Hv bl = none := by
        cases q : Hv bl with
        | none => rfl
        | some o =>
          rcases (mv _ _ q).2 with r | r
          · cases r
          · rw [S2a.hf] at r; cases r
      have mv0 : Mk nul H5 H3 Hv := fun b o q => ⟨(mv b o q).1, (mv b o q).2.imp id fun r => S2a.ex.free r fun w => by
        subst w
        exact pot_some S2a.pot r⟩
      obtain ⟨Hm, Sf⟩ := S3.more2 moAL.lst mv0 dv sv
      refine ⟨bl, ws, _, rfl, rfl, S3.hf, szN (by omega), _, _, _, _, rfl, Sf, by simp [hBl], fun j z B' hj hB' => ?_, ?_⟩
      · rcases Nat.lt_or_ge j Bs.length with q | q
        · rw [List.getElem?_append_left q] at hB'
          exact gBs j z B' hj hB'
        · rw [List.getElem?_append_right q] at hB'
          have : j - Bs.length = 0 := by
            cases r : j - Bs.length with
            | zero => rfl
            | succ n => rw [r] at hB'; cases hB'
          rw [this] at hB'
          cases hB'
          have : j = i := by omega
          subst this
          rw [hy'] at hj
          cases hj
          exact gB
      · intro b o q
        have n1 : b ≠ bl := fun w => by rw [w, bF] at q; cases q
        have q1 := (e_2.trans ((but_in e2a).trans (but_exB e3))) _ _ q
        have n2 : b ≠ p := fun w => by rw [w, but_at] at q1; cases q1
        exact but_ne (by rw [upd_ne n1]; exact but_ex _ _ q1) n2
    · obtain ⟨y5, ws, Hn, Bs, rfl, S, hBl, gBs, e⟩ := h
      rw [hvl] at hBl
      have hym1 := G.least
      have hBs : ∀ {H9 : Hp}, Ex (but H' p) H9 → LstOf (LstOf AltL) H9 (.ref bl) Bs := fun {H9} e9 => ⟨bl, ws, rfl, e9 _ _ (but_ne S.hf nbp), moAL.lst.paired (Ex.trans (fun b o q => but_ne (S.mk_ b o q).1 fun w => by
        subst w
        rcases (S.mk_ _ _ q).2 with z | z
        · cases z
        · exact pot_some hp5 z) e9) S.pr⟩
      have hCe := hCF.ex e
      have hLe := hLF.ex e
      have hye := e _ _ hyF
      show tSeq (tPar 6 7 _) _ _ ([some (.ref p), some (.ref a), some (.ref c), some (.ref yr), some (.ref bl), y5, none, none, none, none, none, none, none, none, none, none, none, none, none, none]) H'
      refine p_parM (evp_makeB (L := L) (vt := vt) (Bs := Bs) S.pot (evap_imp (evap_c (vs := [.ref c, .ref bl]) (vb2 rfl rfl)) fun vs Ha Hb ea eb hv => ?_) G hBl gBs) fun wv H7 e7 hw R hR => ?_
      · obtain ⟨rfl, e1, e2⟩ := hv
        have x := but_in (p := p) (e1.trans e2)
        obtain ⟨q, vs, r, kq, hq⟩ := hBs x
        exact ⟨c, .ref bl, rfl, hCe.ex x, q, vs, r, kq, pimp (fun _ _ z => bkL_R z) hq⟩
      obtain ⟨wq, rfl, _, hW7⟩ := hw
      have hp7 := S.pot.ex e7
      have x7 : Ex (but H' p) (but H7 p) := but_in e7
      refine ⟨_, rfl, _, rfl, _, _, rfl, .inl ⟨_, Evl.sq_of (but_ex _ _ (x7 _ _ hye)), rfl⟩, p, (yardsL L).length, by rw [hvl]; rfl, hp7, by omega, by omega, fun at_ H8 hat hp8 e8 => hR _ _ ?_⟩
      have x8 : Ex (but H' p) H8 := (x7.trans (but_exB e8)).trans but_ex
      have hW8 : WAt A.Web A.Country H8 wq L Bs := (hW7.ex (but_exB e8)).ex but_ex
      have hC8 := hCe.ex x8
      have hL8 := hLe.ex x8
      have hy8 := x8 _ _ hye
      have hB8 := hBs x8
      clear hW7 hp7 x7 hCe hLe hye hBs e S hp8 e8 e7 S0 eF bF hCF hLF hyF
      obtain ⟨y, hyi⟩ : ∃ y, (yardsL L)[at_]? = some y := ⟨_, List.getElem?_eq_getElem hat⟩
      have hym := List.mem_of_getElem? hyi
      obtain ⟨bl', bvs, rbl, hbl8, hbp⟩ := id hB8
      cases rbl
      obtain ⟨Bb, hBb⟩ : ∃ B, Bs[at_]? = some B := ⟨_, List.getElem?_eq_getElem (by omega)⟩
      obtain ⟨v8, hv8, hb8⟩ := piy hbp hBb
      have gB := gBs _ _ _ hyi hBb
      have hdg := G.deg y
      have nok : NrOk (adj L y) := ⟨hdg, by rw [adj_length]; exact (mem_yards.mp hym).2, G.tr.adj_nodup y, adj_srt L y, fun x hx => by
        have := (G.vs_ x).mp (adj_vs G hx)
        omega⟩
      have s0 := empty_stands gB nok.two nok.nd
      have bok := bkOk_of gB
      show tSeq (tAsg _ _) _ _ ([some (.ref p), some (.ref a), some (.ref c), some (.ref yr), some (.ref bl), y5, some (.ref wq), some (vI at_), none, none, none, none, none, none, none, none, none, none, none, none]) H8
      have eyd : ∀ {H9 : Hp}, Ex H8 H9 → Ev (tOp (rIxL K) (tVar 3) (tVar 7)) [some (.ref p), some (.ref a), some (.ref c), some (.ref yr), some (.ref bl), y5, some (.ref wq), some (vI at_), none, none, none, none, none, none, none, none, none, none, none, none] H9 (vI y) := fun {H9} e9 => Evl.ev_op (Evl.ev_var rfl) (Evl.ev_var rfl) (Evl.rv_ixL (Evl.sq_of (e9 _ _ hy8)) (at_of rfl (by unfold vIs; rw [List.getElem?_map, hyi]; rfl)))
      refine p_tup4 (P3 := NewL (vIs (adj L y))) (P4 := NewL []) (eyd (Ex.refl _)) (Evl.ev_op (Evl.ev_var rfl) (Evl.ev_var rfl) (Evl.rv_ixL (Evl.sq_of hbl8) (at_of rfl hv8))) (evp_callA (vs := [.ref a, vI y]) (Evl.ea_cons (Evl.ev_var rfl) (Evl.ea_cons (eyd (Ex.refl _)) Evl.ea_nil)) (fun H4 e4 Q q => ⟨L, a, y, rfl, hL8.ex e4, hsm, fun q1 H5 e5 f5 h5 => q _ H5 e5 ⟨q1, rfl, f5, h5⟩⟩) (fun v H1 H2 H3 _ e12 _ h => newL_back e12 h)) (fun _ _ => evp_lst Evl.ea_nil (by show 0 ≤ 100000; decide)) fun v u Ha Hb Hc H9 ea eb hv ec hu e9 => ?_
      obtain ⟨nr, rfl, _, hnr⟩ := hv
      obtain ⟨mt, rfl, _, hmt⟩ := hu
      have x9 := ((ea.trans eb).trans ec).trans e9
      have hW := hW8.ex x9
      have hC := hC8.ex x9
      have hb := moAL.lst _ _ _ _ x9 hb8
      have hN : NAt H9 nr (adj L y) := (ec.trans e9) _ _ hnr
      have hm9 : H9 mt = some (.lst []) := e9 _ _ hmt
      clear hW8 hC8 hb8 hnr hmt x9 eyd hbp hbl8 hB8 hL8 hy8 x8 ea eb ec e9
      show tSeq (tFor _ _ _) _ _ ([some (.ref p), some (.ref a), some (.ref c), some (.ref yr), some (.ref bl), some (vI y), some (.ref wq), some (vI at_), some v8, some (.ref nr), some (.ref mt), none, none, none, none, none, none, none, none, none]) H9
      have hnl : (vIs (adj L y)).length = (adj L y).length := by unfold vIs; rw [List.length_map]
      refine Evl.q_forL (a := nr) (xs := vIs (adj L y)) (Evl.ev_var rfl) (Evl.sq_of hN) (fun i σ' H' => ∃ v10 Ms y11 y12 y13 y14 y15 y16 y17, σ' = [some (.ref p), some (.ref a), some (.ref c), some (.ref yr), some (.ref bl), some (vI y), some (.ref wq), some (vI at_), some v8, some (.ref nr), some v10, y11, y12, y13, y14, y15, y16, y17, none, none] ∧ Ex H9 H' ∧ LstOf (LstOf EntR) H' v10 Ms ∧ Ms.length ≤ i * 343 ∧ ∀ l ∈ Ms, ∃ e ∈ l, e.2.1 ∈ (adj L y).take i)
        (fun H2 e2 => ⟨.ref mt, [], none, none, none, none, none, none, none, rfl, e2, ⟨mt, [], rfl, e2 _ _ hm9, .nil⟩, Nat.zero_le _, fun _ h => (nomatch h)⟩) (fun i σ' H' _ h => ?_) (fun i x σ' H' hx h => ?_) (fun σ' H' h => ?_)
      · obtain ⟨v10, Ms, y11, y12, y13, y14, y15, y16, y17, rfl, e, _⟩ := h
        exact Evl.sq_of (e _ _ hN)
      · obtain ⟨v10, Ms, y11, y12, y13, y14, y15, y16, y17, rfl, e, hM, hMl, hMs⟩ := h
        obtain ⟨t, hti, rfl⟩ := vIs_ix hx
        have ht := List.mem_of_getElem? hti
        have til := (List.getElem?_eq_some_iff.mp hti).1
        have tow := fun l => tow_mem (l := l) gB nok.nd nok.srt ht s0
        have tl := tow_len bok.six nok ht
        have hvl' := List.length_filter_le (grt Bb (pairsT (adj L y) t)) (towP Bb (adj L y) t)
        have towS : ∀ l ∈ towP Bb (adj L y) t, Sml l ∧ l.length ≤ 6 := fun l hl => by
          have h := ((tow l).mp hl).1
          exact ⟨sml_of h.good nok.sm (by have := h.carts gB; omega), h.len gB⟩
        show tSeq (tPar 12 13 _) _ _ ([some (.ref p), some (.ref a), some (.ref c), some (.ref yr), some (.ref bl), some (vI y), some (.ref wq), some (vI at_), some v8, some (.ref nr), some v10, some (vI t), y12, y13, y14, y15, y16, y17, none, none]) H'
        refine p_parP (P1 := NewLst (LstOf EntR) nul (towP Bb (adj L y) t)) (P2 := NewLst (LstOf EntR) nul ((towP Bb (adj L y) t).filter (grt Bb (pairsT (adj L y) t)))) (evp_callA (vs := [v8, .ref nr, vI t]) (vb3 rfl rfl rfl) (fun H5 e5 Q q => ⟨Bb, v8, nr, adj L y, t, rfl, moAL.lst _ _ _ _ (e.trans e5) hb, gB, (hN.ex e).ex e5, nok, ht, fun z H6 e6 hz => q z H6 e6 hz⟩) (fun _ _ _ _ _ eb _ h => h.back eb)) (fun v H1 e1 _ => evp_callA (vs := [v8, .ref nr, vI t]) (vb3 rfl rfl rfl) (fun H5 e5 Q q => ⟨Bb, v8, nr, adj L y, t, rfl, moAL.lst _ _ _ _ ((e.trans e1).trans e5) hb, gB, (hN.ex (e.trans e1)).ex e5, nok, ht, fun z H6 e6 hz => q z H6 e6 hz⟩) (fun _ _ _ _ _ eb _ h => h.back eb)) fun dv hv Hd Hg ed hdv eg hhv => ?_
        have x1 := e.trans (ed.trans eg)
        have hD := moLL.lst _ _ _ _ eg (newLst_at moLL hdv)
        have hH := newLst_at moLL hhv
        have hMg := moLL.lst _ _ _ _ (ed.trans eg) hM
        clear hdv hhv hM
        obtain ⟨qd, ds, rfl, hqd, hpd⟩ := id hD
        obtain ⟨qh, hs, rfl, hqh, hph⟩ := id hH
        show tSeq (tPar 14 15 _) _ _ ([some (.ref p), some (.ref a), some (.ref c), some (.ref yr), some (.ref bl), some (vI y), some (.ref wq), some (vI at_), some v8, some (.ref nr), some v10, some (vI t), some (.ref qd), some (.ref qh), y14, y15, y16, y17, none, none]) Hg
        have hWg := hW.ex x1
        have heav : ∀ {σ : L2.St} {H0 : Hp} {ts : TA}, EvA ts σ H0 [.ref wq, vI y, vI t] → Ex Hg H0 → EvP (tCall (spHeaviest A.Web A.Country) [] E0 ts) σ H0 (NewLst (LstOf EntR) nul ((towP Bb (adj L y) t).filter (grt Bb (pairsT (adj L y) t)))) := fun h e0 => evp_callA (vs := [.ref wq, vI y, vI t]) h (fun H2 e2 Q q => ⟨L, vt, Bs, wq, at_, y, t, Bb, rfl, hWg.ex (e0.trans e2), G, hyi, hBb, gB, ht, fun z H3 e3 hz => q z H3 e3 hz⟩) (fun _ _ _ _ _ eb _ h => h.back eb)
        refine p_parP (P1 := NewLst (LstOf EntR) nul (towP Bb (adj L y) t)) (P2 := NewLst (LstOf EntR) nul ((towP Bb (adj L y) t).filter (grt Bb (pairsT (adj L y) t)))) (evp_towards (vb3 rfl rfl rfl) hWg G hyi hBb gB ht) (fun v H1 e1 _ => evp_callRP (evap_c (vs := [vI t, vI y, .ref wq]) (vb3 rfl rfl rfl)) (fun vs Ha Hb ea eb hv Q q => ?_)) fun fv tv Hf Ht ef hfv et htv => ?_
        · obtain ⟨rfl, _, _⟩ := hv
          exact ⟨L, vt, Bs, wq, at_, y, t, Bb, rfl, hWg.ex (e1.trans (ea.trans eb)), G, hyi, hBb, gB, ht, fun z H3 e3 hz => q z H3 e3 (hz.back eb)⟩
        obtain ⟨qf, fs, Hnf, rfl, fqf, mf, hqf, hpf⟩ := hfv
        obtain ⟨qt, ts, Hnt, rfl, fqt, mt', hqt, hpt⟩ := htv
        have eGt : Ex Hg Ht := ef.trans et
        have hqf1 : Hf qf = some (.lst fs) := (mf _ _ hqf).1
        have hqfT := et _ _ hqf1
        have hpfT := moLL.paired (mf.ex.trans et) hpf
        have hF : LstOf (LstOf EntR) Ht (.ref qf) (towP Bb (adj L y) t) := ⟨qf, fs, rfl, hqfT, hpfT⟩
        have hqtT : Ht qt = some (.lst ts) := (mt' _ _ hqt).1
        have hptT := moLL.paired mt'.ex hpt
        have hT : LstOf (LstOf EntR) Ht (.ref qt) ((towP Bb (adj L y) t).filter (grt Bb (pairsT (adj L y) t))) := ⟨qt, ts, rfl, hqtT, hptT⟩
        have shT : Shw (dLL (towP Bb (adj L y) t)) 3 70315 := (shw_LL towS).up (Nat.le_refl _) (Nat.mul_le_mul_right 205 tl)
        have shH : Shw (dLL ((towP Bb (adj L y) t).filter (grt Bb (pairsT (adj L y) t)))) 3 70315 := (shw_LL fun l hl => towS l (List.mem_filter.mp hl).1).up (Nat.le_refl _) (Nat.mul_le_mul_right 205 (Nat.le_trans hvl' tl))
        show tSeq (tIfS _ _ tNext) _ _ ([some (.ref p), some (.ref a), some (.ref c), some (.ref yr), some (.ref bl), some (vI y), some (.ref wq), some (vI at_), some v8, some (.ref nr), some v10, some (vI t), some (.ref qd), some (.ref qh), some (.ref qf), some (.ref qt), y16, y17, none, none]) Ht
        refine p_skip (Evl.et_or (a := false) (b := false) ?_ fun _ => Evl.et_or (a := false) (b := false) ?_ fun _ => ?_) fun H15 e15 => ?_
        · refine Evl.et_is (Evl.et_test (Evl.ev_op (ev_reprX (d := dLL (towP Bb (adj L y) t)) (evp_ev (Evl.ev_var rfl)) (fun u Ha Hb ea eb hu => ?_) shT (by decide) (by decide)) (ev_reprX (d := dLL (towP Bb (adj L y) t)) (evp_ev (Evl.ev_var rfl)) (fun u Ha Hb ea eb hu => ?_) shT (by decide) (by decide)) (Evl.rv_ne rfl))) (by simp)
          · cases hu
            exact ⟨qf, rfl, (dpx_LL hF).ex (ea.trans eb)⟩
          · cases hu
            exact ⟨qd, rfl, (dpx_LL hD).ex (eGt.trans (ea.trans eb))⟩
        · refine Evl.et_is (Evl.et_test (Evl.ev_op (ev_reprX (d := dLL ((towP Bb (adj L y) t).filter (grt Bb (pairsT (adj L y) t)))) (evp_ev (Evl.ev_var rfl)) (fun u Ha Hb ea eb hu => ?_) shH (by decide) (by decide)) (ev_reprX (d := dLL ((towP Bb (adj L y) t).filter (grt Bb (pairsT (adj L y) t)))) (evp_ev (Evl.ev_var rfl)) (fun u Ha Hb ea eb hu => ?_) shH (by decide) (by decide)) (Evl.rv_ne rfl))) (by simp)
          · cases hu
            exact ⟨qt, rfl, (dpx_LL hT).ex (ea.trans eb)⟩
          · cases hu
            exact ⟨qh, rfl, (dpx_LL hH).ex (eGt.trans (ea.trans eb))⟩
        · exact Evl.et_is (Evl.et_test (ev_opP (z := .bl (!(PyData.eqv (dLL ((towP Bb (adj L y) t).filter (grt Bb (pairsT (adj L y) t)))) (dLL ((towP Bb (adj L y) t).filter (grt Bb (pairsT (adj L y) t))))))) (heav (vb3 rfl rfl rfl) eGt) (Evl.ev_var rfl) fun u Ha Hb ea eb hu => rv_neD (dpx_LL (newLst_at moLL hu)) ((dpx_LL hT).ex (ea.trans eb)) (shaped_LL _) (shaped_LL _))) (by rw [eqv_LL_refl]; rfl)
        show tSeq (tFor _ _ _) _ _ ([some (.ref p), some (.ref a), some (.ref c), some (.ref yr), some (.ref bl), some (vI y), some (.ref wq), some (vI at_), some v8, some (.ref nr), some v10, some (vI t), some (.ref qd), some (.ref qh), some (.ref qf), some (.ref qt), y16, y17, none, none]) H15
        refine Evl.q_forL (a := qf) (xs := fs) (Evl.ev_var rfl) (Evl.sq_of (e15 _ _ hqfT)) (fun j σ'' H'' => ∃ y16 y17, σ'' = [some (.ref p), some (.ref a), some (.ref c), some (.ref yr), some (.ref bl), some (vI y), some (.ref wq), some (vI at_), some v8, some (.ref nr), some v10, some (vI t), some (.ref qd), some (.ref qh), some (.ref qf), some (.ref qt), y16, y17, none, none] ∧ Ex H15 H'') (fun H2 e2 => ⟨y16, y17, rfl, e2⟩) (fun j σ'' H'' _ h => ?_) (fun j x σ'' H'' hx h => ?_) (fun σ'' H'' h => ?_)
        · obtain ⟨y16, y17, rfl, e16⟩ := h
          exact Evl.sq_of (e16 _ _ (e15 _ _ hqfT))
        · obtain ⟨y16, y17, rfl, e16⟩ := h
          obtain ⟨l, hl, rl⟩ := pix hpfT hx
          have ml := List.mem_of_getElem? hl
          obtain ⟨tm, lpos⟩ := (tow l).mp ml
          have ln := tm.len gB
          have xT := e15.trans e16
          have xg := eGt.trans xT
          show tSeq (tIfS _ _ tNext) _ _ ([some (.ref p), some (.ref a), some (.ref c), some (.ref yr), some (.ref bl), some (vI y), some (.ref wq), some (vI at_), some v8, some (.ref nr), some v10, some (vI t), some (.ref qd), some (.ref qh), some (.ref qf), some (.ref qt), some x, y17, none, none]) H''
          refine p_skip (Evl.et_or (a := false) (b := false) ?_ fun _ => ?_) fun H17 e17 => ?_
          · exact Evl.et_is (Evl.et_test (Evl.ev_op (x := .bl (standsB Bb l)) (ev_evp (evp_callA (vs := [.ref wq, vI y, x]) (vb3 rfl rfl rfl) (fun H5 e5 Q q => ⟨L, vt, Bs, wq, at_, y, Bb, x, l, rfl, hWg.ex (xg.trans e5), G, hyi, hBb, gB, seq_of (moE.lst _ _ _ _ (xT.trans e5) rl), tm.good, by omega, fun H6 e6 => q _ H6 e6 rfl⟩) (fun _ _ _ _ _ _ _ h => h))) Evl.ev_c rv_notBl)) (by rw [tm.st]; rfl)
          · refine Evl.et_is (Evl.et_test (b := (Ms.map dL).any fun z => PyData.eqv z (dL l)) (Evl.ev_op (Evl.ev_var rfl) (Evl.ev_var rfl) (fun H1 e Q q => ⟨dL l, Ms.map dL, dp_L (moE.lst _ _ _ _ (xT.trans e) rl), (dpx_LL hMg) H1 (xg.trans e), shaped_L l, shaped_LL Ms, q H1 (Ex.refl _)⟩))) ?_
            rw [List.any_map, List.any_eq_false]
            intro m hm
            show ¬ (PyData.eqv (dL m) (dL l) = true)
            rw [eqv_dL, decide_eq_true_eq]
            intro w
            subst w
            obtain ⟨e0, he0, h0⟩ := hMs m hm
            have ht0 : e0.2.1 = t := (pairsT_mem.mp (tm.pr e0 he0).1).2
            rw [ht0] at h0
            obtain ⟨j0, hj0⟩ := List.getElem?_of_mem h0
            rw [List.getElem?_take] at hj0
            split at hj0
            · rename_i lt0
              have h1 := List.getElem?_eq_some_iff.mp hti
              have h2 := List.getElem?_eq_some_iff.mp hj0
              have := (List.getElem_inj (h₀ := h2.1) (h₁ := h1.1) nok.nd).mp (h2.2.trans h1.2.symm)
              omega
            · cases hj0
          have xT17 := xT.trans e17
          have rl17 := moE.lst _ _ _ _ xT17 rl
          show tSeq (tAsg _ _) _ _ ([some (.ref p), some (.ref a), some (.ref c), some (.ref yr), some (.ref bl), some (vI y), some (.ref wq), some (vI at_), some v8, some (.ref nr), some v10, some (vI t), some (.ref qd), some (.ref qh), some (.ref qf), some (.ref qt), some x, y17, none, none]) H17
          refine p_asg (P := NewLst (LstOf EntR) H17 (((towP Bb (adj L y) t).filter (grt Bb (pairsT (adj L y) t))).filter fun m => withinL l m)) (EvP.imp (lcG (R := LstOf EntR) (S := LstOf EntR) moLL moLL (src_list (Evl.ev_var rfl) (Evl.sq_of (xT17 _ _ hqtT))) (moLL.paired xT17 hptT) (by omega) (fun m x' => [some (.ref p), some (.ref a), some (.ref c), some (.ref yr), some (.ref bl), some (vI y), some (.ref wq), some (vI at_), some v8, some (.ref nr), some v10, some (vI t), some (.ref qd), some (.ref qh), some (.ref qf), some (.ref qt), some x, y17, some x', none]) (fun _ _ => rfl) (fun _ _ _ _ _ _ _ _ q => q) (fun m => withinL l m) (fun m x' hm rm => ?_) (fun m => m) (fun m x' hm rm _ => ?_)) (fun v Ha Hb _ _ h => by rw [List.map_id'] at h; exact h)) fun av H18 e18 hav => ?_
          · have mln := ((tow m).mp (List.mem_filter.mp hm).1).1.len gB
            refine Evl.et_B (ev_allL moE (Evl.ev_var rfl) rl17 (by omega) (fun e x'' => [some (.ref p), some (.ref a), some (.ref c), some (.ref yr), some (.ref bl), some (vI y), some (.ref wq), some (vI at_), some v8, some (.ref nr), some v10, some (vI t), some (.ref qd), some (.ref qh), some (.ref qf), some (.ref qt), some x, y17, some x', some x'']) (fun _ _ => rfl) (fun _ _ _ _ _ _ _ q => q) (fun e => decide (e.2.2 ≤ TM.carts m (some e.1) (some e.2.1))) (fun e x'' _ re => ?_))
            obtain ⟨t', rfl, h⟩ := re
            exact Evl.ev_is (Evl.ev_op (ev_ixT (K := K) (j := 2) (Evl.ev_var rfl) h rfl) (ev_many (o := some e.1) (t := some e.2.1) (Evl.ea_cons (Evl.ev_var rfl) (Evl.ea_cons (ev_ixT (K := K) (j := 0) (Evl.ev_var rfl) h rfl) (Evl.ea_cons (ev_ixT (K := K) (j := 1) (Evl.ev_var rfl) h rfl) Evl.ea_nil))) rm (by omega)) rv_I0P) (by show V.bl _ = V.bl _; rw [dec_le])
          · exact (evp_ev (Evl.ev_var rfl)).imp fun z Ha Hb ea eb h => by
              cases h
              exact newR_old rm (ea.trans eb)
          obtain ⟨m0, hm0, wm0⟩ := hv_above gB nok ht (7 - TM.carts l none none) l (by have := tm.carts gB; omega) tm lpos
          have hin : m0 ∈ ((towP Bb (adj L y) t).filter (grt Bb (pairsT (adj L y) t))).filter fun m => withinL l m := List.mem_filter.mpr ⟨hm0, wm0⟩
          have hall : ∀ m ∈ ((towP Bb (adj L y) t).filter (grt Bb (pairsT (adj L y) t))).filter fun m => withinL l m, m ∈ towP Bb (adj L y) t ∧ withinL l m = true := fun m hm => ⟨(List.mem_filter.mp (List.mem_filter.mp hm).1).1, (List.mem_filter.mp hm).2⟩
          have hav' := newLst_at moLL hav
          generalize (((towP Bb (adj L y) t).filter (grt Bb (pairsT (adj L y) t))).filter fun m => withinL l m) = ab at hin hall hav'
          obtain ⟨qa, as, rfl, hqa, hpa⟩ := id hav'
          cases ab with
          | nil => cases hin
          | cons m rest =>
          cases hpa with
          | cons ra rst =>
          rename_i xa as'
          obtain ⟨hm1, hm2⟩ := hall m List.mem_cons_self
          have tmm := ((tow m).mp hm1).1
          have lnm := tmm.len gB
          show tIfS _ _ tNext _ ([some (.ref p), some (.ref a), some (.ref c), some (.ref yr), some (.ref bl), some (vI y), some (.ref wq), some (vI at_), some v8, some (.ref nr), some v10, some (vI t), some (.ref qd), some (.ref qh), some (.ref qf), some (.ref qt), some x, some (.ref qa), none, none]) H18
          refine p_skip1 (Evl.et_or (a := false) (b := false) ?_ fun _ => ?_) fun H19 e19 => ⟨some x, some (.ref qa), rfl, ((e16.trans e17).trans e18).trans e19⟩
          · refine Evl.et_test (fun H6 e6 Q' q' => ⟨_, rfl, (by show 0 ≤ sizeLine; decide), fun e he => ⟨dLL (m :: rest), .list [], (dpx_LL hav') _ (e6.trans (Ex.new he)), .lst (Evl.sq_of upd_same) .nil, shaped_LL _, shaped_nil, ?_⟩⟩)
            rw [eqv_LL_nil]
            exact q' _ (Ex.new he)
          · refine Evl.et_is (Evl.et_test (Evl.ev_op (x := .bl (withinL l m)) (ev_evp (evp_callA (vs := [.ref c, vI y, x, xa]) (Evl.ea_cons (Evl.ev_var rfl) (Evl.ea_cons (Evl.ev_var rfl) (Evl.ea_cons (Evl.ev_var rfl) (Evl.ea_cons (Evl.ev_op (Evl.ev_var rfl) Evl.ev_c (Evl.rv_ixL (Evl.sq_of hqa) (at_of (j := 0) rfl rfl))) Evl.ea_nil)))) (fun H5 e5 Q q => ⟨L, vt, c, y, x, l, xa, m, rfl, hC.ex (x1.trans (xg.trans ((e17.trans e18).trans e5))), G, hym, seq_of (moE.lst _ _ _ _ (e18.trans e5) rl17), tm.good, by omega, seq_of (moE.lst _ _ _ _ e5 ra), tmm.good, by omega, fun H6 e6 => q _ H6 e6 rfl⟩) (fun _ _ _ _ _ _ _ h => h))) Evl.ev_c rv_notBl)) (by rw [hm2]; rfl)
        · obtain ⟨y16, y17, rfl, e16⟩ := h
          have xg := eGt.trans (e15.trans e16)
          show tSeq (tAsg _ _) _ _ ([some (.ref p), some (.ref a), some (.ref c), some (.ref yr), some (.ref bl), some (vI y), some (.ref wq), some (vI at_), some v8, some (.ref nr), some v10, some (vI t), some (.ref qd), some (.ref qh), some (.ref qf), some (.ref qt), y16, y17, none, none]) H''
          refine p_asg (P := NewLst (LstOf EntR) Hg (Ms ++ towP Bb (adj L y) t)) (EvP.mono xg (evp_cat2 moLL (Evl.ev_var rfl) hMg (Evl.ev_var rfl) hD (by
            have : i * 343 ≤ 4 * 343 := Nat.mul_le_mul_right 343 (by omega)
            omega))) fun mv H20 e20 hmv => ?_
          obtain ⟨qm, G20, rfl, fqm, mG, bG, hqm⟩ := NewLst_all moLL (xg.trans e20) hmv
          -- what is told stands apart from all that was
          have new1 : ∀ {b : Addr} {o : HO}, Hg b = none → H'' b = some o → G20 b = none := fun {b o} h1 h2 => by
            cases z : G20 b with
            | none => rfl
            | some u =>
              rcases (mG b u z).2 with w | w
              · rw [h1] at w; cases w
              · rw [h2] at w; cases w
          have xT := e15.trans e16
          have tp := tow_some gB nok ht
          have tt := tow
          generalize hTT : towP Bb (adj L y) t = TT at *
          cases TT with
          | nil => cases tp
          | cons l0 rest =>
          have hpf' := hpf
          cases hpf' with
          | cons r0 rr0 =>
          rename_i x0 fs'
          obtain ⟨f0, es0, rfl, hf0, hpe0⟩ := r0
          obtain ⟨tm0, l0pos⟩ := (tt l0).mp List.mem_cons_self
          have gf0 : Hg f0 = none := by
            rcases (mf _ _ hf0).2 with z | z
            · cases z
            · exact z
          have nff : qf ≠ f0 := fun z => by
            rw [z, hf0] at hqf
            have hqf := HO.lst.inj (Option.some.inj hqf)
            rw [hqf] at hpe0
            cases hpe0 with
            | cons re _ =>
              obtain ⟨t', rt, ht'⟩ := re
              cases rt
              rw [hf0] at ht'
              cases ht'
          have f0T : Ht f0 = some (.lst es0) := et _ _ (mf _ _ hf0).1
          have ntf : qt ≠ qf := fun z => by rw [z, hqf1] at fqt; cases fqt
          have nt0 : qt ≠ f0 := fun z => by rw [z, (mf _ _ hf0).1] at fqt; cases fqt
          have x20 := xT.trans e20
          have el0 : es0.length ≤ 6 := by rw [PySem.Paired.length hpe0]; exact tm0.len gB
          show tSeq (tDrop _) _ _ ([some (.ref p), some (.ref a), some (.ref c), some (.ref yr), some (.ref bl), some (vI y), some (.ref wq), some (vI at_), some v8, some (.ref nr), some (.ref qm), some (vI t), some (.ref qd), some (.ref qh), some (.ref qf), some (.ref qt), y16, y17, none, none]) H20
          refine Evl.q_app (l := f0) (xs := es0) (v := .non) (x20 _ _ f0T) (Evl.ev_op (Evl.ev_var rfl) Evl.ev_c (Evl.rv_ixL (Evl.sq_of (x20 _ _ hqfT)) (at_of (j := 0) rfl rfl))) Evl.ev_c (by omega) fun H21 e21 => ?_
          have lf : (V.ref f0 :: fs').length ≤ 343 := by rw [PySem.Paired.length hpf]; exact tl
          have x21 := x20.trans e21
          have hqf21 : (upd H21 f0 (.lst (es0 ++ [.non]))) qf = some (.lst (V.ref f0 :: fs')) := by rw [upd_ne nff]; exact x21 _ _ hqfT
          have hqt21 : (upd H21 f0 (.lst (es0 ++ [.non]))) qt = some (.lst ts) := by rw [upd_ne nt0]; exact x21 _ _ hqtT
          have g21 : Ex G20 (upd H21 f0 (.lst (es0 ++ [.non]))) := Ex.mut (mG.ex.trans e21) (new1 gf0 (xT _ _ f0T))
          generalize upd H21 f0 (.lst (es0 ++ [.non])) = H22 at hqf21 hqt21 g21
          show tSeq (tDrop _) _ _ ([some (.ref p), some (.ref a), some (.ref c), some (.ref yr), some (.ref bl), some (vI y), some (.ref wq), some (vI at_), some v8, some (.ref nr), some (.ref qm), some (vI t), some (.ref qd), some (.ref qh), some (.ref qf), some (.ref qt), y16, y17, none, none]) H22
          refine Evl.q_app (l := qf) (v := .non) hqf21 (Evl.ev_var rfl) Evl.ev_c (by omega) fun H23 e23 => ?_
          have hqt23 : (upd H23 qf (.lst ((V.ref f0 :: fs') ++ [.non]))) qt = some (.lst ts) := by rw [upd_ne ntf]; exact e23 _ _ hqt21
          have g23 : Ex G20 (upd H23 qf (.lst ((V.ref f0 :: fs') ++ [.non]))) := Ex.mut (g21.trans e23) (new1 fqf (xT _ _ hqfT))
          generalize upd H23 qf (.lst ((V.ref f0 :: fs') ++ [.non])) = H24 at hqt23 g23
          have lt : ts.length ≤ 343 := by
            rw [PySem.Paired.length hpt]
            omega
          have gqt : Hg qt = none := Evl.fresh_back ef fqt
          show tSeq (tDrop _) _ _ ([some (.ref p), some (.ref a), some (.ref c), some (.ref yr), some (.ref bl), some (vI y), some (.ref wq), some (vI at_), some v8, some (.ref nr), some (.ref qm), some (vI t), some (.ref qd), some (.ref qh), some (.ref qf), some (.ref qt), y16, y17, none, none]) H24
          refine Evl.q_app (l := qt) (v := .non) hqt23 (Evl.ev_var rfl) Evl.ev_c (by omega) fun H25 e25 => ?_
          have g25 : Ex G20 (upd H25 qt (.lst (ts ++ [.non]))) := Ex.mut (g23.trans e25) (new1 gqt (xT _ _ hqtT))
          generalize upd H25 qt (.lst (ts ++ [.non])) = H26 at g25
          have gg : Ex Hg H26 := bG.trans g25
          show tIfS _ _ tNext _ ([some (.ref p), some (.ref a), some (.ref c), some (.ref yr), some (.ref bl), some (vI y), some (.ref wq), some (vI at_), some v8, some (.ref nr), some (.ref qm), some (vI t), some (.ref qd), some (.ref qh), some (.ref qf), some (.ref qt), y16, y17, none, none]) H26
          refine p_skip1 (Evl.et_is (Evl.et_test (ev_opP (z := .bl (!(PyData.eqv (dLL (l0 :: rest)) (dLL (l0 :: rest))))) (evp_callRP (P := NewLst (LstOf EntR) nul (l0 :: rest)) (evap_c (vs := [vI t, vI y, .ref wq]) (vb3 rfl rfl rfl)) (fun vs Ha Hb ea eb hv Q q => ?_)) (Evl.ev_var rfl) fun u Ha Hb ea eb hu => rv_neD (dpx_LL (newLst_at moLL hu)) ((dpx_LL hD).ex (gg.trans (ea.trans eb))) (shaped_LL _) (shaped_LL _))) (by rw [eqv_LL_refl]; rfl)) fun H27 e27 => ?_
          · obtain ⟨rfl, _, _⟩ := hv
            exact ⟨L, vt, Bs, wq, at_, y, t, Bb, rfl, hWg.ex (gg.trans (ea.trans eb)), G, hyi, hBb, gB, ht, fun z H3 e3 hz => q z H3 e3 (by rw [hTT] at hz; exact hz.back eb)⟩
          refine ⟨.ref qm, Ms ++ l0 :: rest, some (vI t), some (.ref qd), some (.ref qh), some (.ref qf), some (.ref qt), y16, y17, rfl, x1.trans (gg.trans e27), moLL.lst _ _ _ _ (g25.trans e27) hqm, ?_, fun l hl => ?_⟩
          · rw [List.length_append, Nat.succ_mul]
            omega
          · rcases List.mem_append.mp hl with z | z
            · obtain ⟨e0, he0, h0⟩ := hMs l z
              exact ⟨e0, he0, (List.take_sublist_take_left (Nat.le_succ i)).subset h0⟩
            · obtain ⟨tml, lpl⟩ := (tt l).mp z
              obtain ⟨e0, he0⟩ := List.exists_mem_of_length_pos lpl
              have ht0 : e0.2.1 = t := (pairsT_mem.mp (tml.pr e0 he0).1).2
              refine ⟨e0, he0, ?_⟩
              rw [ht0, tk_more hti]
              simp
      · obtain ⟨v10, Ms, y11, y12, y13, y14, y15, y16, y17, rfl, e, _⟩ := h
        exact k H'
theorem ok_law (T : Txt K mg A) : G8.FnOkG P w K mg base CX0 11 A.law A.law_fd ["_law_script"] (spLaw K) := by
  refine G8.okG T.F_law sc_law (fun vs H Q E h => ?_) (fun cdv A' outer s H vs Q E hr hG h => ?_)
  · obtain ⟨a, ns, rfl, _⟩ := h
    rfl
  · obtain ⟨a, ns, rfl, ha, k⟩ := h
    refine ⟨_, (pss_one (ps_ret (G8.pe_callG (ok_l_right T) (hr.mono (by decide)) hG (by rfl) T.m_l_right T.F_l_right.kp T.b_l_right .nil pass0 (pa_cons (pe_call (ok_l_pot T) (hr.mono (by decide)) (by rfl) T.m_l_pot T.F_l_pot.kp T.b_l_pot .nil pass0 (pa_cons (pv 0) (pa_cons pe_int pa_nil))) pa_nil)))), ?_⟩
    exact ⟨_, rfl, a, ns, 0, rfl, ha, by decide, fun p H1 e1 fp hp => ⟨p, rfl, hp, fun H2 => k H2⟩⟩
end
end K26

set_option Elab.async false
set_option linter.all false
set_option maxRecDepth 100000
set_option maxHeartbeats 4000000
/-! the law called from outside, where its def is promised under the guard alone -/
namespace G8
open PySem PySem.Spec PyProof.Rows L2
section
variable {P : Program} {w : World} {K : PySem.W.Frag} {mg mb : Str → Option Value} {k : Nat} {fa a : Addr} {fd : FuncData} {x : Str} {sp : Sp} {s : Shared} {vs : List Value} {ns : List Int} {H : Hp}
/-- a table is not the script -/
theorem table_off (ha : s.heap.get? a = some { cls := .type "list", data := .seq vs.toArray }) (only : ∀ b, b ≠ a → H b = none) {b : Addr} {m : Str → Option Value} (t : s.heap.Ns b m) : (hidT s.heap H).Ns b m := by
  obtain ⟨ob, ents, used, at_, isD, rest⟩ := t
  refine ⟨ob, ents, used, hidT_get at_ (only b fun same => ?_), isD, rest⟩
  rw [same, ha] at at_
  have sameO := Option.some.inj at_
  rw [← sameO] at isD
  exact nomatch isD
theorem mod_below (KX : K.In s.heap) (g1 : s.heap.Ns mainGlobals mg) (g2 : s.heap.Ns builtinsNs mb) (g3 : ∀ y : Str, y ≠ "__name__" → mb y = bootBuiltins y) (g4 : s.heap.NoLimit)
    (ha : s.heap.get? a = some { cls := .type "list", data := .seq vs.toArray }) (only : ∀ b, b ≠ a → H b = none) (out : H a = none ∨ K.lookup a = none) : Mod K mg (hidT s.heap H) := by
  obtain ⟨lim, l1, l2⟩ := g4
  refine ⟨fun b o hb => hidT_get (KX b o hb) ?_, table_off ha only g1, ⟨mb, table_off ha only g2, g3⟩, ⟨lim, table_off ha only l1, l2⟩⟩
  by_cases same : b = a
  · rcases out with z | z
    · rw [same]
      exact z
    · rw [same, z] at hb
      exact nomatch hb
  · exact only b same
/-- one tracked thing at most, which is locked: the call leaves all as it was -/
theorem law_from (KX : K.In s.heap) (g1 : s.heap.Ns mainGlobals mg) (g2 : s.heap.Ns builtinsNs mb) (g3 : ∀ y : Str, y ≠ "__name__" → mb y = bootBuiltins y) (g4 : s.heap.NoLimit) (g5 : s.gens = #[])
    (ha : s.heap.get? a = some { cls := .type "list", data := .seq vs.toArray }) (hr : Room k callerA) (F : ∀ base : Heap, FnOkG P w K mg base CX0 k fa fd [x] sp) (bind : ∀ (t : Shared) (u : Value), BindsTo t fd ⟨[u], []⟩ [(x, u)])
    (only : ∀ b, b ≠ a → H b = none) (out : H a = none ∨ K.lookup a = none) (lock : ∀ b u, H b = some u → ∃ ob xs, u = .frz ob (.lst xs)) (hok : HOk P w H s.heap) (say : sp [.ref a] H (fun v _ => v = .bl true) fun _ _ _ => False) :
    codeAny (model P w) callerA (.call (.ref fa) ⟨[.ref a], []⟩) (fun r t => r = .ok (.ret (.bool true)) ∧ OldK s.heap t.heap ∧ t.os = s.os ∧ AllBare t.gens) s := by
  have none_in : ∀ b : Addr, ¬ b ∈ ([] : List Addr) := fun b z => nomatch z
  have env : Env0 P w K mg (hidT s.heap H) callerA [] s H :=
    ⟨rfl, mod_below KX g1 g2 g3 g4 ha only out, fun b o z => of_hidT z, Nat.le_of_eq (hidT_size _ _), trivial, fun b z => absurd z (none_in b), hok, .of_eq g5⟩
  have go := (F (hidT s.heap H)).run callerA [] s H ⟨[.ref a], []⟩ [.ref a] [.ref a] (fun v _ => v = .bl true) (fun _ _ _ => False) hr rfl env (bind s (.ref a)) (.cons rfl .nil) say
  refine codeAny_mono go fun r t done => ?_
  match r, done with
  | .ok (.ret u), ⟨v, H2, os, bare, un, hok2, rel, isT⟩ =>
    have isT : v = .bl true := isT
    subst isT
    have isU : u = Value.bool true := rel
    subst isU
    refine ⟨rfl, .of_keep fun b o there => ?_, os, bare⟩
    cases tracked : H b with
    | none => exact un.keep b o there tracked (none_in b) (by simp)
    | some v =>
      obtain ⟨ob, xs, rfl⟩ := lock b v tracked
      have one := (hok b _ tracked).1
      have two := (hok2 b _ (un.frzs b ob _ tracked)).1
      rw [there] at one
      rw [Option.some.inj one]
      exact two
  | .error e, done => exact done.elim
  | .ok .next, done => exact done.elim
  | .ok .brk, done => exact done.elim
  | .ok .cont, done => exact done.elim
end
end G8
namespace G8
open PySem PySem.Spec PyProof.Rows L2
/-- the row, by the promise of its def -/
theorem walk_G {l : PySem.W.OpenLaw} {n k : Nat} {q : Program} {loose : List Str} {XP : (Str → Option Value) → Heap → Prop} {YP : World → Heap → Prop} {d : DefRec} {K : Params → PySem.W.Frag} {sp : PySem.W.Frag → Sp} {x : Str}
    (most : l.most = some n) (fits : n ≤ sizeLine) (plain : d.params.defaults = []) (hr : Room k callerA) (isIn : ∀ (w : World) (h : Heap), YP w h → (K w.params).In h)
    (F : ∀ (w : World) (mg : Str → Option Value) (fa : Addr) (h : Heap), (K w.params).In h → h.Ns mainGlobals mg → mg d.name = some (.ref fa) →
      ∃ fd : FuncData, (∀ (s : Shared) (u : Value), BindsTo s fd ⟨[u], []⟩ [(x, u)]) ∧ ∀ base : Heap, FnOkG l.prog w (K w.params) mg base CX0 k fa fd [x] (sp (K w.params)))
    (say : ∀ (K : PySem.W.Frag) (H : Hp) (a : Addr) (ns : List Int), SqL K H a (ns.map V.int) → sp K [.ref a] H (fun v _ => v = .bl true) fun _ _ _ => False) :
    PySem.W.WalkO q loose XP YP l.row.toRowW d [] (fun f vs => PySem.call f vs) := by
  refine Att.attach_call most plain fun w _ s mg mb fa _ _ _ _ a vs ns G Y _ _ _ hmg script nums short clean => ?_
  have KX := isIn w _ Y
  obtain ⟨fd, bind, ok⟩ := F w mg fa _ KX G.T.g hmg
  have many : ns.length ≤ sizeLine := Nat.le_trans short fits
  have same := nums.length
  have rel := vals_ints nums
  have sized : (ns.map V.int).length ≤ sizeLine := by rw [List.length_map]; exact many
  have done := fun {H : Hp} => law_from (H := H) (fa := fa) (vs := vs) KX G.T.g G.T.b G.T.builtins G.T.nolimit clean script hr ok bind
  by_cases known : ((K w.params).lookup a).isSome = true
  · obtain ⟨ob, at_⟩ := Option.isSome_iff_exists.mp known
    have there := KX a ob at_
    rw [script] at there
    have isO := Option.some.inj there
    subst isO
    exact done (H := fun _ => none) (fun _ _ => rfl) (.inl rfl) (fun _ _ z => nomatch z) (fun _ _ z => nomatch z) (say _ _ _ _ (.inr ⟨_, vs.toArray, _, at_, rfl, rfl, rfl, by rw [List.size_toArray, same]; exact many, by simpa using rel⟩))
  · have out : (K w.params).lookup a = none := by
      cases e : (K w.params).lookup a with
      | none => rfl
      | some ob => rw [e] at known; exact absurd rfl known
    have here : (fun b => if b = a then some (HO.frz { cls := .type "list", data := .seq vs.toArray } (.lst (ns.map V.int))) else none : Hp) a = some (.frz { cls := .type "list", data := .seq vs.toArray } (.lst (ns.map V.int))) := if_pos rfl
    have only : ∀ b u, (fun b => if b = a then some (HO.frz { cls := .type "list", data := .seq vs.toArray } (.lst (ns.map V.int))) else none : Hp) b = some u → b = a ∧ u = .frz { cls := .type "list", data := .seq vs.toArray } (.lst (ns.map V.int)) := fun b u z => by
      by_cases e : b = a
      · subst e
        exact ⟨rfl, (Option.some.inj (here.symm.trans z)).symm⟩
      · have z2 : (none : Option HO) = some u := (if_neg e).symm.trans z
        exact nomatch z2
    refine done (H := fun b => if b = a then some (HO.frz { cls := .type "list", data := .seq vs.toArray } (.lst (ns.map V.int))) else none) (fun b e => if_neg e) (.inr out) (fun b u z => ?_) (fun b u z => ?_) (say _ _ _ _ (.inl (.inr ⟨_, here⟩)))
    · exact ⟨_, _, (only b u z).2⟩
    · obtain ⟨e, r⟩ := only b u z
      subst e; subst r
      exact ⟨script, sized, vs, _, rel, script⟩
end G8
set_option Elab.async false
set_option linter.all false
set_option maxRecDepth 100000
set_option maxHeartbeats 4000000
namespace K26
open PySem PySem.Spec PyProof.Rows L2
theorem all_mk {P : Program} {w : World} {K : PySem.W.Frag} {h : Heap} {mg : Str → Option Value} {fa : Addr} (X : K.In h) (G : h.Ns mainGlobals mg) (hfa : mg "law" = some (.ref fa))
    {C_Country : Addr} {C_Web : Addr} {f_is_count : Addr} {od_is_count an_is_count : Option Addr} {sl_is_count : Array (Option Value)} {oc_is_count kV_is_count dc_is_count pm_is_count cd_is_count ct_is_count : Value} {f_is_row : Addr} {od_is_row an_is_row : Option Addr} {sl_is_row : Array (Option Value)} {oc_is_row kV_is_row dc_is_row pm_is_row cd_is_row ct_is_row : Value} {f_Country_init : Addr} {od_Country_init an_Country_init : Option Addr} {sl_Country_init : Array (Option Value)} {oc_Country_init kV_Country_init dc_Country_init pm_Country_init cd_Country_init ct_Country_init : Value} {f_Country_lanes : Addr} {od_Country_lanes an_Country_lanes : Option Addr} {sl_Country_lanes : Array (Option Value)} {oc_Country_lanes kV_Country_lanes dc_Country_lanes pm_Country_lanes cd_Country_lanes ct_Country_lanes : Value} {p_Country_lanes : Addr} {rs_Country_lanes : List Value} {f_Country_yards : Addr} {od_Country_yards an_Country_yards : Option Addr} {sl_Country_yards : Array (Option Value)} {oc_Country_yards kV_Country_yards dc_Country_yards pm_Country_yards cd_Country_yards ct_Country_yards : Value} {p_Country_yards : Addr} {rs_Country_yards : List Value} {f_Country_gates : Addr} {od_Country_gates an_Country_gates : Option Addr} {sl_Country_gates : Array (Option Value)} {oc_Country_gates kV_Country_gates dc_Country_gates pm_Country_gates cd_Country_gates ct_Country_gates : Value} {p_Country_gates : Addr} {rs_Country_gates : List Value} {f_Country_neighbours : Addr} {od_Country_neighbours an_Country_neighbours : Option Addr} {sl_Country_neighbours : Array (Option Value)} {oc_Country_neighbours kV_Country_neighbours dc_Country_neighbours pm_Country_neighbours cd_Country_neighbours ct_Country_neighbours : Value} {f_Country_ahead : Addr} {od_Country_ahead an_Country_ahead : Option Addr} {sl_Country_ahead : Array (Option Value)} {oc_Country_ahead kV_Country_ahead dc_Country_ahead pm_Country_ahead cd_Country_ahead ct_Country_ahead : Value} {f_Country_eq : Addr} {od_Country_eq an_Country_eq : Option Addr} {sl_Country_eq : Array (Option Value)} {oc_Country_eq kV_Country_eq dc_Country_eq pm_Country_eq cd_Country_eq ct_Country_eq : Value} {f_is_place : Addr} {od_is_place an_is_place : Option Addr} {sl_is_place : Array (Option Value)} {oc_is_place kV_is_place dc_is_place pm_is_place cd_is_place ct_is_place : Value} {f_is_yard : Addr} {od_is_yard an_is_yard : Option Addr} {sl_is_yard : Array (Option Value)} {oc_is_yard kV_is_yard dc_is_yard pm_is_yard cd_is_yard ct_is_yard : Value} {f_is_neighbour : Addr} {od_is_neighbour an_is_neighbour : Option Addr} {sl_is_neighbour : Array (Option Value)} {oc_is_neighbour kV_is_neighbour dc_is_neighbour pm_is_neighbour cd_is_neighbour ct_is_neighbour : Value} {f_are_lanes : Addr} {od_are_lanes an_are_lanes : Option Addr} {sl_are_lanes : Array (Option Value)} {oc_are_lanes kV_are_lanes dc_are_lanes pm_are_lanes cd_are_lanes ct_are_lanes : Value} {f_is_pair_up_to : Addr} {od_is_pair_up_to an_is_pair_up_to : Option Addr} {sl_is_pair_up_to : Array (Option Value)} {oc_is_pair_up_to kV_is_pair_up_to dc_is_pair_up_to pm_is_pair_up_to cd_is_pair_up_to ct_is_pair_up_to : Value} {f_neighbours_by_place : Addr} {od_neighbours_by_place an_neighbours_by_place : Option Addr} {sl_neighbours_by_place : Array (Option Value)} {oc_neighbours_by_place kV_neighbours_by_place dc_neighbours_by_place pm_neighbours_by_place cd_neighbours_by_place ct_neighbours_by_place : Value} {f_yards_among : Addr} {od_yards_among an_yards_among : Option Addr} {sl_yards_among : Array (Option Value)} {oc_yards_among kV_yards_among dc_yards_among pm_yards_among cd_yards_among ct_yards_among : Value} {f_places_ahead : Addr} {od_places_ahead an_places_ahead : Option Addr} {sl_places_ahead : Array (Option Value)} {oc_places_ahead kV_places_ahead dc_places_ahead pm_places_ahead cd_places_ahead ct_places_ahead : Value} {f_is_among : Addr} {od_is_among an_is_among : Option Addr} {sl_is_among : Array (Option Value)} {oc_is_among kV_is_among dc_is_among pm_is_among cd_is_among ct_is_among : Value} {f_is_pair_of : Addr} {od_is_pair_of an_is_pair_of : Option Addr} {sl_is_pair_of : Array (Option Value)} {oc_is_pair_of kV_is_pair_of dc_is_pair_of pm_is_pair_of cd_is_pair_of ct_is_pair_of : Value} {f_pairs_of : Addr} {od_pairs_of an_pairs_of : Option Addr} {sl_pairs_of : Array (Option Value)} {oc_pairs_of kV_pairs_of dc_pairs_of pm_pairs_of cd_pairs_of ct_pairs_of : Value} {f_is_bound : Addr} {od_is_bound an_is_bound : Option Addr} {sl_is_bound : Array (Option Value)} {oc_is_bound kV_is_bound dc_is_bound pm_is_bound cd_is_bound ct_is_bound : Value} {f_is_alternative : Addr} {od_is_alternative an_is_alternative : Option Addr} {sl_is_alternative : Array (Option Value)} {oc_is_alternative kV_is_alternative dc_is_alternative pm_is_alternative cd_is_alternative ct_is_alternative : Value} {f_is_book_of : Addr} {od_is_book_of an_is_book_of : Option Addr} {sl_is_book_of : Array (Option Value)} {oc_is_book_of kV_is_book_of dc_is_book_of pm_is_book_of cd_is_book_of ct_is_book_of : Value} {f_is_load_of : Addr} {od_is_load_of an_is_load_of : Option Addr} {sl_is_load_of : Array (Option Value)} {oc_is_load_of kV_is_load_of dc_is_load_of pm_is_load_of cd_is_load_of ct_is_load_of : Value} {f_is_entry : Addr} {od_is_entry an_is_entry : Option Addr} {sl_is_entry : Array (Option Value)} {oc_is_entry kV_is_entry dc_is_entry pm_is_entry cd_is_entry ct_is_entry : Value} {f_carts_of : Addr} {od_carts_of an_carts_of : Option Addr} {sl_carts_of : Array (Option Value)} {oc_carts_of kV_carts_of dc_carts_of pm_carts_of cd_carts_of ct_carts_of : Value} {f_keeps : Addr} {od_keeps an_keeps : Option Addr} {sl_keeps : Array (Option Value)} {oc_keeps kV_keeps dc_keeps pm_keeps cd_keeps ct_keeps : Value} {f_stands_by : Addr} {od_stands_by an_stands_by : Option Addr} {sl_stands_by : Array (Option Value)} {oc_stands_by kV_stands_by dc_stands_by pm_stands_by cd_stands_by ct_stands_by : Value} {f_stands_in : Addr} {od_stands_in an_stands_in : Option Addr} {sl_stands_in : Array (Option Value)} {oc_stands_in kV_stands_in dc_stands_in pm_stands_in cd_stands_in ct_stands_in : Value} {f_copied_book : Addr} {od_copied_book an_copied_book : Option Addr} {sl_copied_book : Array (Option Value)} {oc_copied_book kV_copied_book dc_copied_book pm_copied_book cd_copied_book ct_copied_book : Value} {f_added : Addr} {od_added an_added : Option Addr} {sl_added : Array (Option Value)} {oc_added kV_added dc_added pm_added cd_added ct_added : Value} {f_is_within : Addr} {od_is_within an_is_within : Option Addr} {sl_is_within : Array (Option Value)} {oc_is_within kV_is_within dc_is_within pm_is_within cd_is_within ct_is_within : Value} {f_check_country : Addr} {od_check_country an_check_country : Option Addr} {sl_check_country : Array (Option Value)} {oc_check_country kV_check_country dc_check_country pm_check_country cd_check_country ct_check_country : Value} {f_check_yard : Addr} {od_check_yard an_check_yard : Option Addr} {sl_check_yard : Array (Option Value)} {oc_check_yard kV_check_yard dc_check_yard pm_check_yard cd_check_yard ct_check_yard : Value} {f_check_country_and_yard : Addr} {od_check_country_and_yard an_check_country_and_yard : Option Addr} {sl_check_country_and_yard : Array (Option Value)} {oc_check_country_and_yard kV_check_country_and_yard dc_check_country_and_yard pm_check_country_and_yard cd_check_country_and_yard ct_check_country_and_yard : Value} {f_check_target : Addr} {od_check_target an_check_target : Option Addr} {sl_check_target : Array (Option Value)} {oc_check_target kV_check_target dc_check_target pm_check_target cd_check_target ct_check_target : Value} {f_check_book : Addr} {od_check_book an_check_book : Option Addr} {sl_check_book : Array (Option Value)} {oc_check_book kV_check_book dc_check_book pm_check_book cd_check_book ct_check_book : Value} {f_check_load : Addr} {od_check_load an_check_load : Option Addr} {sl_check_load : Array (Option Value)} {oc_check_load kV_check_load dc_check_load pm_check_load cd_check_load ct_check_load : Value} {f_Web_init : Addr} {od_Web_init an_Web_init : Option Addr} {sl_Web_init : Array (Option Value)} {oc_Web_init kV_Web_init dc_Web_init pm_Web_init cd_Web_init ct_Web_init : Value} {f_Web_country : Addr} {od_Web_country an_Web_country : Option Addr} {sl_Web_country : Array (Option Value)} {oc_Web_country kV_Web_country dc_Web_country pm_Web_country cd_Web_country ct_Web_country : Value} {p_Web_country : Addr} {rs_Web_country : List Value} {f_Web_books : Addr} {od_Web_books an_Web_books : Option Addr} {sl_Web_books : Array (Option Value)} {oc_Web_books kV_Web_books dc_Web_books pm_Web_books cd_Web_books ct_Web_books : Value} {p_Web_books : Addr} {rs_Web_books : List Value} {f_Web_book : Addr} {od_Web_book an_Web_book : Option Addr} {sl_Web_book : Array (Option Value)} {oc_Web_book kV_Web_book dc_Web_book pm_Web_book cd_Web_book ct_Web_book : Value} {f_Web_eq : Addr} {od_Web_eq an_Web_eq : Option Addr} {sl_Web_eq : Array (Option Value)} {oc_Web_eq kV_Web_eq dc_Web_eq pm_Web_eq cd_Web_eq ct_Web_eq : Value} {f_check_web : Addr} {od_check_web an_check_web : Option Addr} {sl_check_web : Array (Option Value)} {oc_check_web kV_check_web dc_check_web pm_check_web cd_check_web ct_check_web : Value} {f_is_at_most : Addr} {od_is_at_most an_is_at_most : Option Addr} {sl_is_at_most : Array (Option Value)} {oc_is_at_most kV_is_at_most dc_is_at_most pm_is_at_most cd_is_at_most ct_is_at_most : Value} {f_lets : Addr} {od_lets an_lets : Option Addr} {sl_lets : Array (Option Value)} {oc_lets kV_lets dc_lets pm_lets cd_lets ct_lets : Value} {f_loads_towards : Addr} {od_loads_towards an_loads_towards : Option Addr} {sl_loads_towards : Array (Option Value)} {oc_loads_towards kV_loads_towards dc_loads_towards pm_loads_towards cd_loads_towards ct_loads_towards : Value} {f_heaviest : Addr} {od_heaviest an_heaviest : Option Addr} {sl_heaviest : Array (Option Value)} {oc_heaviest kV_heaviest dc_heaviest pm_heaviest cd_heaviest ct_heaviest : Value} {f_pairs_towards : Addr} {od_pairs_towards an_pairs_towards : Option Addr} {sl_pairs_towards : Array (Option Value)} {oc_pairs_towards kV_pairs_towards dc_pairs_towards pm_pairs_towards cd_pairs_towards ct_pairs_towards : Value} {f_standing_towards : Addr} {od_standing_towards an_standing_towards : Option Addr} {sl_standing_towards : Array (Option Value)} {oc_standing_towards kV_standing_towards dc_standing_towards pm_standing_towards cd_standing_towards ct_standing_towards : Value} {f_standing_loads : Addr} {od_standing_loads an_standing_loads : Option Addr} {sl_standing_loads : Array (Option Value)} {oc_standing_loads kV_standing_loads dc_standing_loads pm_standing_loads cd_standing_loads ct_standing_loads : Value} {f_with_pair : Addr} {od_with_pair an_with_pair : Option Addr} {sl_with_pair : Array (Option Value)} {oc_with_pair kV_with_pair dc_with_pair pm_with_pair cd_with_pair ct_with_pair : Value} {f_is_greatest : Addr} {od_is_greatest an_is_greatest : Option Addr} {sl_is_greatest : Array (Option Value)} {oc_is_greatest kV_is_greatest dc_is_greatest pm_is_greatest cd_is_greatest ct_is_greatest : Value} {f_l_pot : Addr} {od_l_pot an_l_pot : Option Addr} {sl_l_pot : Array (Option Value)} {oc_l_pot kV_l_pot dc_l_pot pm_l_pot cd_l_pot ct_l_pot : Value} {f_l_draw : Addr} {od_l_draw an_l_draw : Option Addr} {sl_l_draw : Array (Option Value)} {oc_l_draw kV_l_draw dc_l_draw pm_l_draw cd_l_draw ct_l_draw : Value} {f_l_pick : Addr} {od_l_pick an_l_pick : Option Addr} {sl_l_pick : Array (Option Value)} {oc_l_pick kV_l_pick dc_l_pick pm_l_pick cd_l_pick ct_l_pick : Value} {f_l_mixed : Addr} {od_l_mixed an_l_mixed : Option Addr} {sl_l_mixed : Array (Option Value)} {oc_l_mixed kV_l_mixed dc_l_mixed pm_l_mixed cd_l_mixed ct_l_mixed : Value} {f_l_lanes : Addr} {od_l_lanes an_l_lanes : Option Addr} {sl_l_lanes : Array (Option Value)} {oc_l_lanes kV_l_lanes dc_l_lanes pm_l_lanes cd_l_lanes ct_l_lanes : Value} {f_l_renumbered : Addr} {od_l_renumbered an_l_renumbered : Option Addr} {sl_l_renumbered : Array (Option Value)} {oc_l_renumbered kV_l_renumbered dc_l_renumbered pm_l_renumbered cd_l_renumbered ct_l_renumbered : Value} {f_l_beside : Addr} {od_l_beside an_l_beside : Option Addr} {sl_l_beside : Array (Option Value)} {oc_l_beside kV_l_beside dc_l_beside pm_l_beside cd_l_beside ct_l_beside : Value} {f_l_yards : Addr} {od_l_yards an_l_yards : Option Addr} {sl_l_yards : Array (Option Value)} {oc_l_yards kV_l_yards dc_l_yards pm_l_yards cd_l_yards ct_l_yards : Value} {f_l_pairs : Addr} {od_l_pairs an_l_pairs : Option Addr} {sl_l_pairs : Array (Option Value)} {oc_l_pairs kV_l_pairs dc_l_pairs pm_l_pairs cd_l_pairs ct_l_pairs : Value} {f_l_book : Addr} {od_l_book an_l_book : Option Addr} {sl_l_book : Array (Option Value)} {oc_l_book kV_l_book dc_l_book pm_l_book cd_l_book ct_l_book : Value} {f_l_many : Addr} {od_l_many an_l_many : Option Addr} {sl_l_many : Array (Option Value)} {oc_l_many kV_l_many dc_l_many pm_l_many cd_l_many ct_l_many : Value} {f_l_stands : Addr} {od_l_stands an_l_stands : Option Addr} {sl_l_stands : Array (Option Value)} {oc_l_stands kV_l_stands dc_l_stands pm_l_stands cd_l_stands ct_l_stands : Value} {f_l_more : Addr} {od_l_more an_l_more : Option Addr} {sl_l_more : Array (Option Value)} {oc_l_more kV_l_more dc_l_more pm_l_more cd_l_more ct_l_more : Value} {f_l_standing : Addr} {od_l_standing an_l_standing : Option Addr} {sl_l_standing : Array (Option Value)} {oc_l_standing kV_l_standing dc_l_standing pm_l_standing cd_l_standing ct_l_standing : Value} {f_l_towards : Addr} {od_l_towards an_l_towards : Option Addr} {sl_l_towards : Array (Option Value)} {oc_l_towards kV_l_towards dc_l_towards pm_l_towards cd_l_towards ct_l_towards : Value} {f_l_heaviest : Addr} {od_l_heaviest an_l_heaviest : Option Addr} {sl_l_heaviest : Array (Option Value)} {oc_l_heaviest kV_l_heaviest dc_l_heaviest pm_l_heaviest cd_l_heaviest ct_l_heaviest : Value} {f_l_right : Addr} {od_l_right an_l_right : Option Addr} {sl_l_right : Array (Option Value)} {oc_l_right kV_l_right dc_l_right pm_l_right cd_l_right ct_l_right : Value} {f_law : Addr} {od_law an_law : Option Addr} {sl_law : Array (Option Value)} {oc_law kV_law dc_law pm_law cd_law ct_law : Value} {t_MOST_LANES_AT_A_PLACE : Tok} {t_MOST_YARDS : Tok} {t_MOST_PLACES : Tok} {t_MOST_OF_A_BOUND : Tok} {t_MOST_BOUNDS : Tok} {t_MOST_ALTERNATIVES : Tok} {t_MOST_LOADS : Tok}
    (aC_Country : PySem.W.nsIn K mainGlobals "Country" = some (some (.ref C_Country)))
    (aC_Web : PySem.W.nsIn K mainGlobals "Web" = some (some (.ref C_Web)))
    (a_is_count : PySem.W.nsIn K mainGlobals "is_count" = some (some (.ref f_is_count)))
    (l_is_count : K.lookup f_is_count = some ⟨oc_is_count, od_is_count, .func (PySem.W.fnOf "is_count" "is_count" (defArgs s_is_count) (defBody s_is_count) (defScope s_is_count) .none kV_is_count dc_is_count pm_is_count an_is_count cd_is_count ct_is_count), sl_is_count⟩)
    (c_is_count : PySem.W.codeIn K cd_is_count "is_count" = true)
    (k_is_count : PySem.W.keepIn K (.ref f_is_count) = true)
    (a_is_row : PySem.W.nsIn K mainGlobals "is_row" = some (some (.ref f_is_row)))
    (l_is_row : K.lookup f_is_row = some ⟨oc_is_row, od_is_row, .func (PySem.W.fnOf "is_row" "is_row" (defArgs s_is_row) (defBody s_is_row) (defScope s_is_row) .none kV_is_row dc_is_row pm_is_row an_is_row cd_is_row ct_is_row), sl_is_row⟩)
    (c_is_row : PySem.W.codeIn K cd_is_row "is_row" = true)
    (k_is_row : PySem.W.keepIn K (.ref f_is_row) = true)
    (a_Country_init : PySem.W.findIn K (.ref C_Country) "__init__" = some (some (.ref f_Country_init)))
    (i_Country_init : PySem.W.isFn K (.ref f_Country_init) = true)
    (l_Country_init : K.lookup f_Country_init = some ⟨oc_Country_init, od_Country_init, .func (PySem.W.fnOf "__init__" "Country.__init__" (defArgs s_Country_init) (defBody s_Country_init) (defScope s_Country_init) .none kV_Country_init dc_Country_init pm_Country_init an_Country_init cd_Country_init ct_Country_init), sl_Country_init⟩)
    (c_Country_init : PySem.W.codeIn K cd_Country_init "Country.__init__" = true)
    (k_Country_init : PySem.W.keepIn K (.ref f_Country_init) = true)
    (a_Country_lanes : PySem.W.findIn K (.ref C_Country) "lanes" = some (some (.ref p_Country_lanes)))
    (g_Country_lanes : PySem.W.specialIn K (.ref p_Country_lanes) "__get__" = some (some (.builtin "property.__get__")))
    (t_Country_lanes : PySem.W.takesIn K (.ref p_Country_lanes) = some true)
    (r_Country_lanes : PySem.W.recIn K p_Country_lanes "property" = some (.ref f_Country_lanes :: rs_Country_lanes))
    (l_Country_lanes : K.lookup f_Country_lanes = some ⟨oc_Country_lanes, od_Country_lanes, .func (PySem.W.fnOf "lanes" "Country.lanes" (defArgs s_Country_lanes) (defBody s_Country_lanes) (defScope s_Country_lanes) .none kV_Country_lanes dc_Country_lanes pm_Country_lanes an_Country_lanes cd_Country_lanes ct_Country_lanes), sl_Country_lanes⟩)
    (c_Country_lanes : PySem.W.codeIn K cd_Country_lanes "Country.lanes" = true)
    (k_Country_lanes : PySem.W.keepIn K (.ref f_Country_lanes) = true)
    (a_Country_yards : PySem.W.findIn K (.ref C_Country) "yards" = some (some (.ref p_Country_yards)))
    (g_Country_yards : PySem.W.specialIn K (.ref p_Country_yards) "__get__" = some (some (.builtin "property.__get__")))
    (t_Country_yards : PySem.W.takesIn K (.ref p_Country_yards) = some true)
    (r_Country_yards : PySem.W.recIn K p_Country_yards "property" = some (.ref f_Country_yards :: rs_Country_yards))
    (l_Country_yards : K.lookup f_Country_yards = some ⟨oc_Country_yards, od_Country_yards, .func (PySem.W.fnOf "yards" "Country.yards" (defArgs s_Country_yards) (defBody s_Country_yards) (defScope s_Country_yards) .none kV_Country_yards dc_Country_yards pm_Country_yards an_Country_yards cd_Country_yards ct_Country_yards), sl_Country_yards⟩)
    (c_Country_yards : PySem.W.codeIn K cd_Country_yards "Country.yards" = true)
    (k_Country_yards : PySem.W.keepIn K (.ref f_Country_yards) = true)
    (a_Country_gates : PySem.W.findIn K (.ref C_Country) "gates" = some (some (.ref p_Country_gates)))
    (g_Country_gates : PySem.W.specialIn K (.ref p_Country_gates) "__get__" = some (some (.builtin "property.__get__")))
    (t_Country_gates : PySem.W.takesIn K (.ref p_Country_gates) = some true)
    (r_Country_gates : PySem.W.recIn K p_Country_gates "property" = some (.ref f_Country_gates :: rs_Country_gates))
    (l_Country_gates : K.lookup f_Country_gates = some ⟨oc_Country_gates, od_Country_gates, .func (PySem.W.fnOf "gates" "Country.gates" (defArgs s_Country_gates) (defBody s_Country_gates) (defScope s_Country_gates) .none kV_Country_gates dc_Country_gates pm_Country_gates an_Country_gates cd_Country_gates ct_Country_gates), sl_Country_gates⟩)
    (c_Country_gates : PySem.W.codeIn K cd_Country_gates "Country.gates" = true)
    (k_Country_gates : PySem.W.keepIn K (.ref f_Country_gates) = true)
    (a_Country_neighbours : PySem.W.findIn K (.ref C_Country) "neighbours" = some (some (.ref f_Country_neighbours)))
    (i_Country_neighbours : PySem.W.isFn K (.ref f_Country_neighbours) = true)
    (l_Country_neighbours : K.lookup f_Country_neighbours = some ⟨oc_Country_neighbours, od_Country_neighbours, .func (PySem.W.fnOf "neighbours" "Country.neighbours" (defArgs s_Country_neighbours) (defBody s_Country_neighbours) (defScope s_Country_neighbours) .none kV_Country_neighbours dc_Country_neighbours pm_Country_neighbours an_Country_neighbours cd_Country_neighbours ct_Country_neighbours), sl_Country_neighbours⟩)
    (c_Country_neighbours : PySem.W.codeIn K cd_Country_neighbours "Country.neighbours" = true)
    (k_Country_neighbours : PySem.W.keepIn K (.ref f_Country_neighbours) = true)
    (a_Country_ahead : PySem.W.findIn K (.ref C_Country) "ahead" = some (some (.ref f_Country_ahead)))
    (i_Country_ahead : PySem.W.isFn K (.ref f_Country_ahead) = true)
    (l_Country_ahead : K.lookup f_Country_ahead = some ⟨oc_Country_ahead, od_Country_ahead, .func (PySem.W.fnOf "ahead" "Country.ahead" (defArgs s_Country_ahead) (defBody s_Country_ahead) (defScope s_Country_ahead) .none kV_Country_ahead dc_Country_ahead pm_Country_ahead an_Country_ahead cd_Country_ahead ct_Country_ahead), sl_Country_ahead⟩)
    (c_Country_ahead : PySem.W.codeIn K cd_Country_ahead "Country.ahead" = true)
    (k_Country_ahead : PySem.W.keepIn K (.ref f_Country_ahead) = true)
    (a_Country_eq : PySem.W.findIn K (.ref C_Country) "__eq__" = some (some (.ref f_Country_eq)))
    (i_Country_eq : PySem.W.isFn K (.ref f_Country_eq) = true)
    (l_Country_eq : K.lookup f_Country_eq = some ⟨oc_Country_eq, od_Country_eq, .func (PySem.W.fnOf "__eq__" "Country.__eq__" (defArgs s_Country_eq) (defBody s_Country_eq) (defScope s_Country_eq) .none kV_Country_eq dc_Country_eq pm_Country_eq an_Country_eq cd_Country_eq ct_Country_eq), sl_Country_eq⟩)
    (c_Country_eq : PySem.W.codeIn K cd_Country_eq "Country.__eq__" = true)
    (k_Country_eq : PySem.W.keepIn K (.ref f_Country_eq) = true)
    (a_is_place : PySem.W.nsIn K mainGlobals "is_place" = some (some (.ref f_is_place)))
    (l_is_place : K.lookup f_is_place = some ⟨oc_is_place, od_is_place, .func (PySem.W.fnOf "is_place" "is_place" (defArgs s_is_place) (defBody s_is_place) (defScope s_is_place) .none kV_is_place dc_is_place pm_is_place an_is_place cd_is_place ct_is_place), sl_is_place⟩)
    (c_is_place : PySem.W.codeIn K cd_is_place "is_place" = true)
    (k_is_place : PySem.W.keepIn K (.ref f_is_place) = true)
    (a_is_yard : PySem.W.nsIn K mainGlobals "is_yard" = some (some (.ref f_is_yard)))
    (l_is_yard : K.lookup f_is_yard = some ⟨oc_is_yard, od_is_yard, .func (PySem.W.fnOf "is_yard" "is_yard" (defArgs s_is_yard) (defBody s_is_yard) (defScope s_is_yard) .none kV_is_yard dc_is_yard pm_is_yard an_is_yard cd_is_yard ct_is_yard), sl_is_yard⟩)
    (c_is_yard : PySem.W.codeIn K cd_is_yard "is_yard" = true)
    (k_is_yard : PySem.W.keepIn K (.ref f_is_yard) = true)
    (a_is_neighbour : PySem.W.nsIn K mainGlobals "is_neighbour" = some (some (.ref f_is_neighbour)))
    (l_is_neighbour : K.lookup f_is_neighbour = some ⟨oc_is_neighbour, od_is_neighbour, .func (PySem.W.fnOf "is_neighbour" "is_neighbour" (defArgs s_is_neighbour) (defBody s_is_neighbour) (defScope s_is_neighbour) .none kV_is_neighbour dc_is_neighbour pm_is_neighbour an_is_neighbour cd_is_neighbour ct_is_neighbour), sl_is_neighbour⟩)
    (c_is_neighbour : PySem.W.codeIn K cd_is_neighbour "is_neighbour" = true)
    (k_is_neighbour : PySem.W.keepIn K (.ref f_is_neighbour) = true)
    (a_are_lanes : PySem.W.nsIn K mainGlobals "are_lanes" = some (some (.ref f_are_lanes)))
    (l_are_lanes : K.lookup f_are_lanes = some ⟨oc_are_lanes, od_are_lanes, .func (PySem.W.fnOf "are_lanes" "are_lanes" (defArgs s_are_lanes) (defBody s_are_lanes) (defScope s_are_lanes) .none kV_are_lanes dc_are_lanes pm_are_lanes an_are_lanes cd_are_lanes ct_are_lanes), sl_are_lanes⟩)
    (c_are_lanes : PySem.W.codeIn K cd_are_lanes "are_lanes" = true)
    (k_are_lanes : PySem.W.keepIn K (.ref f_are_lanes) = true)
    (a_is_pair_up_to : PySem.W.nsIn K mainGlobals "is_pair_up_to" = some (some (.ref f_is_pair_up_to)))
    (l_is_pair_up_to : K.lookup f_is_pair_up_to = some ⟨oc_is_pair_up_to, od_is_pair_up_to, .func (PySem.W.fnOf "is_pair_up_to" "is_pair_up_to" (defArgs s_is_pair_up_to) (defBody s_is_pair_up_to) (defScope s_is_pair_up_to) .none kV_is_pair_up_to dc_is_pair_up_to pm_is_pair_up_to an_is_pair_up_to cd_is_pair_up_to ct_is_pair_up_to), sl_is_pair_up_to⟩)
    (c_is_pair_up_to : PySem.W.codeIn K cd_is_pair_up_to "is_pair_up_to" = true)
    (k_is_pair_up_to : PySem.W.keepIn K (.ref f_is_pair_up_to) = true)
    (a_neighbours_by_place : PySem.W.nsIn K mainGlobals "neighbours_by_place" = some (some (.ref f_neighbours_by_place)))
    (l_neighbours_by_place : K.lookup f_neighbours_by_place = some ⟨oc_neighbours_by_place, od_neighbours_by_place, .func (PySem.W.fnOf "neighbours_by_place" "neighbours_by_place" (defArgs s_neighbours_by_place) (defBody s_neighbours_by_place) (defScope s_neighbours_by_place) .none kV_neighbours_by_place dc_neighbours_by_place pm_neighbours_by_place an_neighbours_by_place cd_neighbours_by_place ct_neighbours_by_place), sl_neighbours_by_place⟩)
    (c_neighbours_by_place : PySem.W.codeIn K cd_neighbours_by_place "neighbours_by_place" = true)
    (k_neighbours_by_place : PySem.W.keepIn K (.ref f_neighbours_by_place) = true)
    (a_yards_among : PySem.W.nsIn K mainGlobals "yards_among" = some (some (.ref f_yards_among)))
    (l_yards_among : K.lookup f_yards_among = some ⟨oc_yards_among, od_yards_among, .func (PySem.W.fnOf "yards_among" "yards_among" (defArgs s_yards_among) (defBody s_yards_among) (defScope s_yards_among) .none kV_yards_among dc_yards_among pm_yards_among an_yards_among cd_yards_among ct_yards_among), sl_yards_among⟩)
    (c_yards_among : PySem.W.codeIn K cd_yards_among "yards_among" = true)
    (k_yards_among : PySem.W.keepIn K (.ref f_yards_among) = true)
    (a_places_ahead : PySem.W.nsIn K mainGlobals "places_ahead" = some (some (.ref f_places_ahead)))
    (l_places_ahead : K.lookup f_places_ahead = some ⟨oc_places_ahead, od_places_ahead, .func (PySem.W.fnOf "places_ahead" "places_ahead" (defArgs s_places_ahead) (defBody s_places_ahead) (defScope s_places_ahead) .none kV_places_ahead dc_places_ahead pm_places_ahead an_places_ahead cd_places_ahead ct_places_ahead), sl_places_ahead⟩)
    (c_places_ahead : PySem.W.codeIn K cd_places_ahead "places_ahead" = true)
    (k_places_ahead : PySem.W.keepIn K (.ref f_places_ahead) = true)
    (a_is_among : PySem.W.nsIn K mainGlobals "is_among" = some (some (.ref f_is_among)))
    (l_is_among : K.lookup f_is_among = some ⟨oc_is_among, od_is_among, .func (PySem.W.fnOf "is_among" "is_among" (defArgs s_is_among) (defBody s_is_among) (defScope s_is_among) .none kV_is_among dc_is_among pm_is_among an_is_among cd_is_among ct_is_among), sl_is_among⟩)
    (c_is_among : PySem.W.codeIn K cd_is_among "is_among" = true)
    (k_is_among : PySem.W.keepIn K (.ref f_is_among) = true)
    (a_is_pair_of : PySem.W.nsIn K mainGlobals "is_pair_of" = some (some (.ref f_is_pair_of)))
    (l_is_pair_of : K.lookup f_is_pair_of = some ⟨oc_is_pair_of, od_is_pair_of, .func (PySem.W.fnOf "is_pair_of" "is_pair_of" (defArgs s_is_pair_of) (defBody s_is_pair_of) (defScope s_is_pair_of) .none kV_is_pair_of dc_is_pair_of pm_is_pair_of an_is_pair_of cd_is_pair_of ct_is_pair_of), sl_is_pair_of⟩)
    (c_is_pair_of : PySem.W.codeIn K cd_is_pair_of "is_pair_of" = true)
    (k_is_pair_of : PySem.W.keepIn K (.ref f_is_pair_of) = true)
    (a_pairs_of : PySem.W.nsIn K mainGlobals "pairs_of" = some (some (.ref f_pairs_of)))
    (l_pairs_of : K.lookup f_pairs_of = some ⟨oc_pairs_of, od_pairs_of, .func (PySem.W.fnOf "pairs_of" "pairs_of" (defArgs s_pairs_of) (defBody s_pairs_of) (defScope s_pairs_of) .none kV_pairs_of dc_pairs_of pm_pairs_of an_pairs_of cd_pairs_of ct_pairs_of), sl_pairs_of⟩)
    (c_pairs_of : PySem.W.codeIn K cd_pairs_of "pairs_of" = true)
    (k_pairs_of : PySem.W.keepIn K (.ref f_pairs_of) = true)
    (a_is_bound : PySem.W.nsIn K mainGlobals "is_bound" = some (some (.ref f_is_bound)))
    (l_is_bound : K.lookup f_is_bound = some ⟨oc_is_bound, od_is_bound, .func (PySem.W.fnOf "is_bound" "is_bound" (defArgs s_is_bound) (defBody s_is_bound) (defScope s_is_bound) .none kV_is_bound dc_is_bound pm_is_bound an_is_bound cd_is_bound ct_is_bound), sl_is_bound⟩)
    (c_is_bound : PySem.W.codeIn K cd_is_bound "is_bound" = true)
    (k_is_bound : PySem.W.keepIn K (.ref f_is_bound) = true)
    (a_is_alternative : PySem.W.nsIn K mainGlobals "is_alternative" = some (some (.ref f_is_alternative)))
    (l_is_alternative : K.lookup f_is_alternative = some ⟨oc_is_alternative, od_is_alternative, .func (PySem.W.fnOf "is_alternative" "is_alternative" (defArgs s_is_alternative) (defBody s_is_alternative) (defScope s_is_alternative) .none kV_is_alternative dc_is_alternative pm_is_alternative an_is_alternative cd_is_alternative ct_is_alternative), sl_is_alternative⟩)
    (c_is_alternative : PySem.W.codeIn K cd_is_alternative "is_alternative" = true)
    (k_is_alternative : PySem.W.keepIn K (.ref f_is_alternative) = true)
    (a_is_book_of : PySem.W.nsIn K mainGlobals "is_book_of" = some (some (.ref f_is_book_of)))
    (l_is_book_of : K.lookup f_is_book_of = some ⟨oc_is_book_of, od_is_book_of, .func (PySem.W.fnOf "is_book_of" "is_book_of" (defArgs s_is_book_of) (defBody s_is_book_of) (defScope s_is_book_of) .none kV_is_book_of dc_is_book_of pm_is_book_of an_is_book_of cd_is_book_of ct_is_book_of), sl_is_book_of⟩)
    (c_is_book_of : PySem.W.codeIn K cd_is_book_of "is_book_of" = true)
    (k_is_book_of : PySem.W.keepIn K (.ref f_is_book_of) = true)
    (a_is_load_of : PySem.W.nsIn K mainGlobals "is_load_of" = some (some (.ref f_is_load_of)))
    (l_is_load_of : K.lookup f_is_load_of = some ⟨oc_is_load_of, od_is_load_of, .func (PySem.W.fnOf "is_load_of" "is_load_of" (defArgs s_is_load_of) (defBody s_is_load_of) (defScope s_is_load_of) .none kV_is_load_of dc_is_load_of pm_is_load_of an_is_load_of cd_is_load_of ct_is_load_of), sl_is_load_of⟩)
    (c_is_load_of : PySem.W.codeIn K cd_is_load_of "is_load_of" = true)
    (k_is_load_of : PySem.W.keepIn K (.ref f_is_load_of) = true)
    (a_is_entry : PySem.W.nsIn K mainGlobals "is_entry" = some (some (.ref f_is_entry)))
    (l_is_entry : K.lookup f_is_entry = some ⟨oc_is_entry, od_is_entry, .func (PySem.W.fnOf "is_entry" "is_entry" (defArgs s_is_entry) (defBody s_is_entry) (defScope s_is_entry) .none kV_is_entry dc_is_entry pm_is_entry an_is_entry cd_is_entry ct_is_entry), sl_is_entry⟩)
    (c_is_entry : PySem.W.codeIn K cd_is_entry "is_entry" = true)
    (k_is_entry : PySem.W.keepIn K (.ref f_is_entry) = true)
    (a_carts_of : PySem.W.nsIn K mainGlobals "carts_of" = some (some (.ref f_carts_of)))
    (l_carts_of : K.lookup f_carts_of = some ⟨oc_carts_of, od_carts_of, .func (PySem.W.fnOf "carts_of" "carts_of" (defArgs s_carts_of) (defBody s_carts_of) (defScope s_carts_of) .none kV_carts_of dc_carts_of pm_carts_of an_carts_of cd_carts_of ct_carts_of), sl_carts_of⟩)
    (c_carts_of : PySem.W.codeIn K cd_carts_of "carts_of" = true)
    (k_carts_of : PySem.W.keepIn K (.ref f_carts_of) = true)
    (a_keeps : PySem.W.nsIn K mainGlobals "keeps" = some (some (.ref f_keeps)))
    (l_keeps : K.lookup f_keeps = some ⟨oc_keeps, od_keeps, .func (PySem.W.fnOf "keeps" "keeps" (defArgs s_keeps) (defBody s_keeps) (defScope s_keeps) .none kV_keeps dc_keeps pm_keeps an_keeps cd_keeps ct_keeps), sl_keeps⟩)
    (c_keeps : PySem.W.codeIn K cd_keeps "keeps" = true)
    (k_keeps : PySem.W.keepIn K (.ref f_keeps) = true)
    (a_stands_by : PySem.W.nsIn K mainGlobals "stands_by" = some (some (.ref f_stands_by)))
    (l_stands_by : K.lookup f_stands_by = some ⟨oc_stands_by, od_stands_by, .func (PySem.W.fnOf "stands_by" "stands_by" (defArgs s_stands_by) (defBody s_stands_by) (defScope s_stands_by) .none kV_stands_by dc_stands_by pm_stands_by an_stands_by cd_stands_by ct_stands_by), sl_stands_by⟩)
    (c_stands_by : PySem.W.codeIn K cd_stands_by "stands_by" = true)
    (k_stands_by : PySem.W.keepIn K (.ref f_stands_by) = true)
    (a_stands_in : PySem.W.nsIn K mainGlobals "stands_in" = some (some (.ref f_stands_in)))
    (l_stands_in : K.lookup f_stands_in = some ⟨oc_stands_in, od_stands_in, .func (PySem.W.fnOf "stands_in" "stands_in" (defArgs s_stands_in) (defBody s_stands_in) (defScope s_stands_in) .none kV_stands_in dc_stands_in pm_stands_in an_stands_in cd_stands_in ct_stands_in), sl_stands_in⟩)
    (c_stands_in : PySem.W.codeIn K cd_stands_in "stands_in" = true)
    (k_stands_in : PySem.W.keepIn K (.ref f_stands_in) = true)
    (a_copied_book : PySem.W.nsIn K mainGlobals "copied_book" = some (some (.ref f_copied_book)))
    (l_copied_book : K.lookup f_copied_book = some ⟨oc_copied_book, od_copied_book, .func (PySem.W.fnOf "copied_book" "copied_book" (defArgs s_copied_book) (defBody s_copied_book) (defScope s_copied_book) .none kV_copied_book dc_copied_book pm_copied_book an_copied_book cd_copied_book ct_copied_book), sl_copied_book⟩)
    (c_copied_book : PySem.W.codeIn K cd_copied_book "copied_book" = true)
    (k_copied_book : PySem.W.keepIn K (.ref f_copied_book) = true)
    (a_added : PySem.W.nsIn K mainGlobals "added" = some (some (.ref f_added)))
    (l_added : K.lookup f_added = some ⟨oc_added, od_added, .func (PySem.W.fnOf "added" "added" (defArgs s_added) (defBody s_added) (defScope s_added) .none kV_added dc_added pm_added an_added cd_added ct_added), sl_added⟩)
    (c_added : PySem.W.codeIn K cd_added "added" = true)
    (k_added : PySem.W.keepIn K (.ref f_added) = true)
    (a_is_within : PySem.W.nsIn K mainGlobals "is_within" = some (some (.ref f_is_within)))
    (l_is_within : K.lookup f_is_within = some ⟨oc_is_within, od_is_within, .func (PySem.W.fnOf "is_within" "is_within" (defArgs s_is_within) (defBody s_is_within) (defScope s_is_within) .none kV_is_within dc_is_within pm_is_within an_is_within cd_is_within ct_is_within), sl_is_within⟩)
    (c_is_within : PySem.W.codeIn K cd_is_within "is_within" = true)
    (k_is_within : PySem.W.keepIn K (.ref f_is_within) = true)
    (a_check_country : PySem.W.nsIn K mainGlobals "check_country" = some (some (.ref f_check_country)))
    (l_check_country : K.lookup f_check_country = some ⟨oc_check_country, od_check_country, .func (PySem.W.fnOf "check_country" "check_country" (defArgs s_check_country) (defBody s_check_country) (defScope s_check_country) .none kV_check_country dc_check_country pm_check_country an_check_country cd_check_country ct_check_country), sl_check_country⟩)
    (c_check_country : PySem.W.codeIn K cd_check_country "check_country" = true)
    (k_check_country : PySem.W.keepIn K (.ref f_check_country) = true)
    (a_check_yard : PySem.W.nsIn K mainGlobals "check_yard" = some (some (.ref f_check_yard)))
    (l_check_yard : K.lookup f_check_yard = some ⟨oc_check_yard, od_check_yard, .func (PySem.W.fnOf "check_yard" "check_yard" (defArgs s_check_yard) (defBody s_check_yard) (defScope s_check_yard) .none kV_check_yard dc_check_yard pm_check_yard an_check_yard cd_check_yard ct_check_yard), sl_check_yard⟩)
    (c_check_yard : PySem.W.codeIn K cd_check_yard "check_yard" = true)
    (k_check_yard : PySem.W.keepIn K (.ref f_check_yard) = true)
    (a_check_country_and_yard : PySem.W.nsIn K mainGlobals "check_country_and_yard" = some (some (.ref f_check_country_and_yard)))
    (l_check_country_and_yard : K.lookup f_check_country_and_yard = some ⟨oc_check_country_and_yard, od_check_country_and_yard, .func (PySem.W.fnOf "check_country_and_yard" "check_country_and_yard" (defArgs s_check_country_and_yard) (defBody s_check_country_and_yard) (defScope s_check_country_and_yard) .none kV_check_country_and_yard dc_check_country_and_yard pm_check_country_and_yard an_check_country_and_yard cd_check_country_and_yard ct_check_country_and_yard), sl_check_country_and_yard⟩)
    (c_check_country_and_yard : PySem.W.codeIn K cd_check_country_and_yard "check_country_and_yard" = true)
    (k_check_country_and_yard : PySem.W.keepIn K (.ref f_check_country_and_yard) = true)
    (a_check_target : PySem.W.nsIn K mainGlobals "check_target" = some (some (.ref f_check_target)))
    (l_check_target : K.lookup f_check_target = some ⟨oc_check_target, od_check_target, .func (PySem.W.fnOf "check_target" "check_target" (defArgs s_check_target) (defBody s_check_target) (defScope s_check_target) .none kV_check_target dc_check_target pm_check_target an_check_target cd_check_target ct_check_target), sl_check_target⟩)
    (c_check_target : PySem.W.codeIn K cd_check_target "check_target" = true)
    (k_check_target : PySem.W.keepIn K (.ref f_check_target) = true)
    (a_check_book : PySem.W.nsIn K mainGlobals "check_book" = some (some (.ref f_check_book)))
    (l_check_book : K.lookup f_check_book = some ⟨oc_check_book, od_check_book, .func (PySem.W.fnOf "check_book" "check_book" (defArgs s_check_book) (defBody s_check_book) (defScope s_check_book) .none kV_check_book dc_check_book pm_check_book an_check_book cd_check_book ct_check_book), sl_check_book⟩)
    (c_check_book : PySem.W.codeIn K cd_check_book "check_book" = true)
    (k_check_book : PySem.W.keepIn K (.ref f_check_book) = true)
    (a_check_load : PySem.W.nsIn K mainGlobals "check_load" = some (some (.ref f_check_load)))
    (l_check_load : K.lookup f_check_load = some ⟨oc_check_load, od_check_load, .func (PySem.W.fnOf "check_load" "check_load" (defArgs s_check_load) (defBody s_check_load) (defScope s_check_load) .none kV_check_load dc_check_load pm_check_load an_check_load cd_check_load ct_check_load), sl_check_load⟩)
    (c_check_load : PySem.W.codeIn K cd_check_load "check_load" = true)
    (k_check_load : PySem.W.keepIn K (.ref f_check_load) = true)
    (a_Web_init : PySem.W.findIn K (.ref C_Web) "__init__" = some (some (.ref f_Web_init)))
    (i_Web_init : PySem.W.isFn K (.ref f_Web_init) = true)
    (l_Web_init : K.lookup f_Web_init = some ⟨oc_Web_init, od_Web_init, .func (PySem.W.fnOf "__init__" "Web.__init__" (defArgs s_Web_init) (defBody s_Web_init) (defScope s_Web_init) .none kV_Web_init dc_Web_init pm_Web_init an_Web_init cd_Web_init ct_Web_init), sl_Web_init⟩)
    (c_Web_init : PySem.W.codeIn K cd_Web_init "Web.__init__" = true)
    (k_Web_init : PySem.W.keepIn K (.ref f_Web_init) = true)
    (a_Web_country : PySem.W.findIn K (.ref C_Web) "country" = some (some (.ref p_Web_country)))
    (g_Web_country : PySem.W.specialIn K (.ref p_Web_country) "__get__" = some (some (.builtin "property.__get__")))
    (t_Web_country : PySem.W.takesIn K (.ref p_Web_country) = some true)
    (r_Web_country : PySem.W.recIn K p_Web_country "property" = some (.ref f_Web_country :: rs_Web_country))
    (l_Web_country : K.lookup f_Web_country = some ⟨oc_Web_country, od_Web_country, .func (PySem.W.fnOf "country" "Web.country" (defArgs s_Web_country) (defBody s_Web_country) (defScope s_Web_country) .none kV_Web_country dc_Web_country pm_Web_country an_Web_country cd_Web_country ct_Web_country), sl_Web_country⟩)
    (c_Web_country : PySem.W.codeIn K cd_Web_country "Web.country" = true)
    (k_Web_country : PySem.W.keepIn K (.ref f_Web_country) = true)
    (a_Web_books : PySem.W.findIn K (.ref C_Web) "books" = some (some (.ref p_Web_books)))
    (g_Web_books : PySem.W.specialIn K (.ref p_Web_books) "__get__" = some (some (.builtin "property.__get__")))
    (t_Web_books : PySem.W.takesIn K (.ref p_Web_books) = some true)
    (r_Web_books : PySem.W.recIn K p_Web_books "property" = some (.ref f_Web_books :: rs_Web_books))
    (l_Web_books : K.lookup f_Web_books = some ⟨oc_Web_books, od_Web_books, .func (PySem.W.fnOf "books" "Web.books" (defArgs s_Web_books) (defBody s_Web_books) (defScope s_Web_books) .none kV_Web_books dc_Web_books pm_Web_books an_Web_books cd_Web_books ct_Web_books), sl_Web_books⟩)
    (c_Web_books : PySem.W.codeIn K cd_Web_books "Web.books" = true)
    (k_Web_books : PySem.W.keepIn K (.ref f_Web_books) = true)
    (a_Web_book : PySem.W.findIn K (.ref C_Web) "book" = some (some (.ref f_Web_book)))
    (i_Web_book : PySem.W.isFn K (.ref f_Web_book) = true)
    (l_Web_book : K.lookup f_Web_book = some ⟨oc_Web_book, od_Web_book, .func (PySem.W.fnOf "book" "Web.book" (defArgs s_Web_book) (defBody s_Web_book) (defScope s_Web_book) .none kV_Web_book dc_Web_book pm_Web_book an_Web_book cd_Web_book ct_Web_book), sl_Web_book⟩)
    (c_Web_book : PySem.W.codeIn K cd_Web_book "Web.book" = true)
    (k_Web_book : PySem.W.keepIn K (.ref f_Web_book) = true)
    (a_Web_eq : PySem.W.findIn K (.ref C_Web) "__eq__" = some (some (.ref f_Web_eq)))
    (i_Web_eq : PySem.W.isFn K (.ref f_Web_eq) = true)
    (l_Web_eq : K.lookup f_Web_eq = some ⟨oc_Web_eq, od_Web_eq, .func (PySem.W.fnOf "__eq__" "Web.__eq__" (defArgs s_Web_eq) (defBody s_Web_eq) (defScope s_Web_eq) .none kV_Web_eq dc_Web_eq pm_Web_eq an_Web_eq cd_Web_eq ct_Web_eq), sl_Web_eq⟩)
    (c_Web_eq : PySem.W.codeIn K cd_Web_eq "Web.__eq__" = true)
    (k_Web_eq : PySem.W.keepIn K (.ref f_Web_eq) = true)
    (a_check_web : PySem.W.nsIn K mainGlobals "check_web" = some (some (.ref f_check_web)))
    (l_check_web : K.lookup f_check_web = some ⟨oc_check_web, od_check_web, .func (PySem.W.fnOf "check_web" "check_web" (defArgs s_check_web) (defBody s_check_web) (defScope s_check_web) .none kV_check_web dc_check_web pm_check_web an_check_web cd_check_web ct_check_web), sl_check_web⟩)
    (c_check_web : PySem.W.codeIn K cd_check_web "check_web" = true)
    (k_check_web : PySem.W.keepIn K (.ref f_check_web) = true)
    (a_is_at_most : PySem.W.nsIn K mainGlobals "is_at_most" = some (some (.ref f_is_at_most)))
    (l_is_at_most : K.lookup f_is_at_most = some ⟨oc_is_at_most, od_is_at_most, .func (PySem.W.fnOf "is_at_most" "is_at_most" (defArgs s_is_at_most) (defBody s_is_at_most) (defScope s_is_at_most) .none kV_is_at_most dc_is_at_most pm_is_at_most an_is_at_most cd_is_at_most ct_is_at_most), sl_is_at_most⟩)
    (c_is_at_most : PySem.W.codeIn K cd_is_at_most "is_at_most" = true)
    (k_is_at_most : PySem.W.keepIn K (.ref f_is_at_most) = true)
    (a_lets : PySem.W.nsIn K mainGlobals "lets" = some (some (.ref f_lets)))
    (l_lets : K.lookup f_lets = some ⟨oc_lets, od_lets, .func (PySem.W.fnOf "lets" "lets" (defArgs s_lets) (defBody s_lets) (defScope s_lets) .none kV_lets dc_lets pm_lets an_lets cd_lets ct_lets), sl_lets⟩)
    (c_lets : PySem.W.codeIn K cd_lets "lets" = true)
    (k_lets : PySem.W.keepIn K (.ref f_lets) = true)
    (a_loads_towards : PySem.W.nsIn K mainGlobals "loads_towards" = some (some (.ref f_loads_towards)))
    (l_loads_towards : K.lookup f_loads_towards = some ⟨oc_loads_towards, od_loads_towards, .func (PySem.W.fnOf "loads_towards" "loads_towards" (defArgs s_loads_towards) (defBody s_loads_towards) (defScope s_loads_towards) .none kV_loads_towards dc_loads_towards pm_loads_towards an_loads_towards cd_loads_towards ct_loads_towards), sl_loads_towards⟩)
    (c_loads_towards : PySem.W.codeIn K cd_loads_towards "loads_towards" = true)
    (k_loads_towards : PySem.W.keepIn K (.ref f_loads_towards) = true)
    (a_heaviest : PySem.W.nsIn K mainGlobals "heaviest" = some (some (.ref f_heaviest)))
    (l_heaviest : K.lookup f_heaviest = some ⟨oc_heaviest, od_heaviest, .func (PySem.W.fnOf "heaviest" "heaviest" (defArgs s_heaviest) (defBody s_heaviest) (defScope s_heaviest) .none kV_heaviest dc_heaviest pm_heaviest an_heaviest cd_heaviest ct_heaviest), sl_heaviest⟩)
    (c_heaviest : PySem.W.codeIn K cd_heaviest "heaviest" = true)
    (k_heaviest : PySem.W.keepIn K (.ref f_heaviest) = true)
    (a_pairs_towards : PySem.W.nsIn K mainGlobals "pairs_towards" = some (some (.ref f_pairs_towards)))
    (l_pairs_towards : K.lookup f_pairs_towards = some ⟨oc_pairs_towards, od_pairs_towards, .func (PySem.W.fnOf "pairs_towards" "pairs_towards" (defArgs s_pairs_towards) (defBody s_pairs_towards) (defScope s_pairs_towards) .none kV_pairs_towards dc_pairs_towards pm_pairs_towards an_pairs_towards cd_pairs_towards ct_pairs_towards), sl_pairs_towards⟩)
    (c_pairs_towards : PySem.W.codeIn K cd_pairs_towards "pairs_towards" = true)
    (k_pairs_towards : PySem.W.keepIn K (.ref f_pairs_towards) = true)
    (a_standing_towards : PySem.W.nsIn K mainGlobals "standing_towards" = some (some (.ref f_standing_towards)))
    (l_standing_towards : K.lookup f_standing_towards = some ⟨oc_standing_towards, od_standing_towards, .func (PySem.W.fnOf "standing_towards" "standing_towards" (defArgs s_standing_towards) (defBody s_standing_towards) (defScope s_standing_towards) .none kV_standing_towards dc_standing_towards pm_standing_towards an_standing_towards cd_standing_towards ct_standing_towards), sl_standing_towards⟩)
    (c_standing_towards : PySem.W.codeIn K cd_standing_towards "standing_towards" = true)
    (k_standing_towards : PySem.W.keepIn K (.ref f_standing_towards) = true)
    (a_standing_loads : PySem.W.nsIn K mainGlobals "standing_loads" = some (some (.ref f_standing_loads)))
    (l_standing_loads : K.lookup f_standing_loads = some ⟨oc_standing_loads, od_standing_loads, .func (PySem.W.fnOf "standing_loads" "standing_loads" (defArgs s_standing_loads) (defBody s_standing_loads) (defScope s_standing_loads) .none kV_standing_loads dc_standing_loads pm_standing_loads an_standing_loads cd_standing_loads ct_standing_loads), sl_standing_loads⟩)
    (c_standing_loads : PySem.W.codeIn K cd_standing_loads "standing_loads" = true)
    (k_standing_loads : PySem.W.keepIn K (.ref f_standing_loads) = true)
    (a_with_pair : PySem.W.nsIn K mainGlobals "with_pair" = some (some (.ref f_with_pair)))
    (l_with_pair : K.lookup f_with_pair = some ⟨oc_with_pair, od_with_pair, .func (PySem.W.fnOf "with_pair" "with_pair" (defArgs s_with_pair) (defBody s_with_pair) (defScope s_with_pair) .none kV_with_pair dc_with_pair pm_with_pair an_with_pair cd_with_pair ct_with_pair), sl_with_pair⟩)
    (c_with_pair : PySem.W.codeIn K cd_with_pair "with_pair" = true)
    (k_with_pair : PySem.W.keepIn K (.ref f_with_pair) = true)
    (a_is_greatest : PySem.W.nsIn K mainGlobals "is_greatest" = some (some (.ref f_is_greatest)))
    (l_is_greatest : K.lookup f_is_greatest = some ⟨oc_is_greatest, od_is_greatest, .func (PySem.W.fnOf "is_greatest" "is_greatest" (defArgs s_is_greatest) (defBody s_is_greatest) (defScope s_is_greatest) .none kV_is_greatest dc_is_greatest pm_is_greatest an_is_greatest cd_is_greatest ct_is_greatest), sl_is_greatest⟩)
    (c_is_greatest : PySem.W.codeIn K cd_is_greatest "is_greatest" = true)
    (k_is_greatest : PySem.W.keepIn K (.ref f_is_greatest) = true)
    (a_l_pot : PySem.W.nsIn K mainGlobals "_law_pot" = some (some (.ref f_l_pot)))
    (l_l_pot : K.lookup f_l_pot = some ⟨oc_l_pot, od_l_pot, .func (PySem.W.fnOf "_law_pot" "_law_pot" (defArgs s_l_pot) (defBody s_l_pot) (defScope s_l_pot) .none kV_l_pot dc_l_pot pm_l_pot an_l_pot cd_l_pot ct_l_pot), sl_l_pot⟩)
    (c_l_pot : PySem.W.codeIn K cd_l_pot "_law_pot" = true)
    (k_l_pot : PySem.W.keepIn K (.ref f_l_pot) = true)
    (a_l_draw : PySem.W.nsIn K mainGlobals "_law_draw" = some (some (.ref f_l_draw)))
    (l_l_draw : K.lookup f_l_draw = some ⟨oc_l_draw, od_l_draw, .func (PySem.W.fnOf "_law_draw" "_law_draw" (defArgs s_l_draw) (defBody s_l_draw) (defScope s_l_draw) .none kV_l_draw dc_l_draw pm_l_draw an_l_draw cd_l_draw ct_l_draw), sl_l_draw⟩)
    (c_l_draw : PySem.W.codeIn K cd_l_draw "_law_draw" = true)
    (k_l_draw : PySem.W.keepIn K (.ref f_l_draw) = true)
    (a_l_pick : PySem.W.nsIn K mainGlobals "_law_pick" = some (some (.ref f_l_pick)))
    (l_l_pick : K.lookup f_l_pick = some ⟨oc_l_pick, od_l_pick, .func (PySem.W.fnOf "_law_pick" "_law_pick" (defArgs s_l_pick) (defBody s_l_pick) (defScope s_l_pick) .none kV_l_pick dc_l_pick pm_l_pick an_l_pick cd_l_pick ct_l_pick), sl_l_pick⟩)
    (c_l_pick : PySem.W.codeIn K cd_l_pick "_law_pick" = true)
    (k_l_pick : PySem.W.keepIn K (.ref f_l_pick) = true)
    (a_l_mixed : PySem.W.nsIn K mainGlobals "_law_mixed" = some (some (.ref f_l_mixed)))
    (l_l_mixed : K.lookup f_l_mixed = some ⟨oc_l_mixed, od_l_mixed, .func (PySem.W.fnOf "_law_mixed" "_law_mixed" (defArgs s_l_mixed) (defBody s_l_mixed) (defScope s_l_mixed) .none kV_l_mixed dc_l_mixed pm_l_mixed an_l_mixed cd_l_mixed ct_l_mixed), sl_l_mixed⟩)
    (c_l_mixed : PySem.W.codeIn K cd_l_mixed "_law_mixed" = true)
    (k_l_mixed : PySem.W.keepIn K (.ref f_l_mixed) = true)
    (a_l_lanes : PySem.W.nsIn K mainGlobals "_law_lanes" = some (some (.ref f_l_lanes)))
    (l_l_lanes : K.lookup f_l_lanes = some ⟨oc_l_lanes, od_l_lanes, .func (PySem.W.fnOf "_law_lanes" "_law_lanes" (defArgs s_l_lanes) (defBody s_l_lanes) (defScope s_l_lanes) .none kV_l_lanes dc_l_lanes pm_l_lanes an_l_lanes cd_l_lanes ct_l_lanes), sl_l_lanes⟩)
    (c_l_lanes : PySem.W.codeIn K cd_l_lanes "_law_lanes" = true)
    (k_l_lanes : PySem.W.keepIn K (.ref f_l_lanes) = true)
    (a_l_renumbered : PySem.W.nsIn K mainGlobals "_law_renumbered" = some (some (.ref f_l_renumbered)))
    (l_l_renumbered : K.lookup f_l_renumbered = some ⟨oc_l_renumbered, od_l_renumbered, .func (PySem.W.fnOf "_law_renumbered" "_law_renumbered" (defArgs s_l_renumbered) (defBody s_l_renumbered) (defScope s_l_renumbered) .none kV_l_renumbered dc_l_renumbered pm_l_renumbered an_l_renumbered cd_l_renumbered ct_l_renumbered), sl_l_renumbered⟩)
    (c_l_renumbered : PySem.W.codeIn K cd_l_renumbered "_law_renumbered" = true)
    (k_l_renumbered : PySem.W.keepIn K (.ref f_l_renumbered) = true)
    (a_l_beside : PySem.W.nsIn K mainGlobals "_law_beside" = some (some (.ref f_l_beside)))
    (l_l_beside : K.lookup f_l_beside = some ⟨oc_l_beside, od_l_beside, .func (PySem.W.fnOf "_law_beside" "_law_beside" (defArgs s_l_beside) (defBody s_l_beside) (defScope s_l_beside) .none kV_l_beside dc_l_beside pm_l_beside an_l_beside cd_l_beside ct_l_beside), sl_l_beside⟩)
    (c_l_beside : PySem.W.codeIn K cd_l_beside "_law_beside" = true)
    (k_l_beside : PySem.W.keepIn K (.ref f_l_beside) = true)
    (a_l_yards : PySem.W.nsIn K mainGlobals "_law_yards" = some (some (.ref f_l_yards)))
    (l_l_yards : K.lookup f_l_yards = some ⟨oc_l_yards, od_l_yards, .func (PySem.W.fnOf "_law_yards" "_law_yards" (defArgs s_l_yards) (defBody s_l_yards) (defScope s_l_yards) .none kV_l_yards dc_l_yards pm_l_yards an_l_yards cd_l_yards ct_l_yards), sl_l_yards⟩)
    (c_l_yards : PySem.W.codeIn K cd_l_yards "_law_yards" = true)
    (k_l_yards : PySem.W.keepIn K (.ref f_l_yards) = true)
    (a_l_pairs : PySem.W.nsIn K mainGlobals "_law_pairs" = some (some (.ref f_l_pairs)))
    (l_l_pairs : K.lookup f_l_pairs = some ⟨oc_l_pairs, od_l_pairs, .func (PySem.W.fnOf "_law_pairs" "_law_pairs" (defArgs s_l_pairs) (defBody s_l_pairs) (defScope s_l_pairs) .none kV_l_pairs dc_l_pairs pm_l_pairs an_l_pairs cd_l_pairs ct_l_pairs), sl_l_pairs⟩)
    (c_l_pairs : PySem.W.codeIn K cd_l_pairs "_law_pairs" = true)
    (k_l_pairs : PySem.W.keepIn K (.ref f_l_pairs) = true)
    (a_l_book : PySem.W.nsIn K mainGlobals "_law_book" = some (some (.ref f_l_book)))
    (l_l_book : K.lookup f_l_book = some ⟨oc_l_book, od_l_book, .func (PySem.W.fnOf "_law_book" "_law_book" (defArgs s_l_book) (defBody s_l_book) (defScope s_l_book) .none kV_l_book dc_l_book pm_l_book an_l_book cd_l_book ct_l_book), sl_l_book⟩)
    (c_l_book : PySem.W.codeIn K cd_l_book "_law_book" = true)
    (k_l_book : PySem.W.keepIn K (.ref f_l_book) = true)
    (a_l_many : PySem.W.nsIn K mainGlobals "_law_many" = some (some (.ref f_l_many)))
    (l_l_many : K.lookup f_l_many = some ⟨oc_l_many, od_l_many, .func (PySem.W.fnOf "_law_many" "_law_many" (defArgs s_l_many) (defBody s_l_many) (defScope s_l_many) .none kV_l_many dc_l_many pm_l_many an_l_many cd_l_many ct_l_many), sl_l_many⟩)
    (c_l_many : PySem.W.codeIn K cd_l_many "_law_many" = true)
    (k_l_many : PySem.W.keepIn K (.ref f_l_many) = true)
    (a_l_stands : PySem.W.nsIn K mainGlobals "_law_stands" = some (some (.ref f_l_stands)))
    (l_l_stands : K.lookup f_l_stands = some ⟨oc_l_stands, od_l_stands, .func (PySem.W.fnOf "_law_stands" "_law_stands" (defArgs s_l_stands) (defBody s_l_stands) (defScope s_l_stands) .none kV_l_stands dc_l_stands pm_l_stands an_l_stands cd_l_stands ct_l_stands), sl_l_stands⟩)
    (c_l_stands : PySem.W.codeIn K cd_l_stands "_law_stands" = true)
    (k_l_stands : PySem.W.keepIn K (.ref f_l_stands) = true)
    (a_l_more : PySem.W.nsIn K mainGlobals "_law_more" = some (some (.ref f_l_more)))
    (l_l_more : K.lookup f_l_more = some ⟨oc_l_more, od_l_more, .func (PySem.W.fnOf "_law_more" "_law_more" (defArgs s_l_more) (defBody s_l_more) (defScope s_l_more) .none kV_l_more dc_l_more pm_l_more an_l_more cd_l_more ct_l_more), sl_l_more⟩)
    (c_l_more : PySem.W.codeIn K cd_l_more "_law_more" = true)
    (k_l_more : PySem.W.keepIn K (.ref f_l_more) = true)
    (a_l_standing : PySem.W.nsIn K mainGlobals "_law_standing" = some (some (.ref f_l_standing)))
    (l_l_standing : K.lookup f_l_standing = some ⟨oc_l_standing, od_l_standing, .func (PySem.W.fnOf "_law_standing" "_law_standing" (defArgs s_l_standing) (defBody s_l_standing) (defScope s_l_standing) .none kV_l_standing dc_l_standing pm_l_standing an_l_standing cd_l_standing ct_l_standing), sl_l_standing⟩)
    (c_l_standing : PySem.W.codeIn K cd_l_standing "_law_standing" = true)
    (k_l_standing : PySem.W.keepIn K (.ref f_l_standing) = true)
    (a_l_towards : PySem.W.nsIn K mainGlobals "_law_towards" = some (some (.ref f_l_towards)))
    (l_l_towards : K.lookup f_l_towards = some ⟨oc_l_towards, od_l_towards, .func (PySem.W.fnOf "_law_towards" "_law_towards" (defArgs s_l_towards) (defBody s_l_towards) (defScope s_l_towards) .none kV_l_towards dc_l_towards pm_l_towards an_l_towards cd_l_towards ct_l_towards), sl_l_towards⟩)
    (c_l_towards : PySem.W.codeIn K cd_l_towards "_law_towards" = true)
    (k_l_towards : PySem.W.keepIn K (.ref f_l_towards) = true)
    (a_l_heaviest : PySem.W.nsIn K mainGlobals "_law_heaviest" = some (some (.ref f_l_heaviest)))
    (l_l_heaviest : K.lookup f_l_heaviest = some ⟨oc_l_heaviest, od_l_heaviest, .func (PySem.W.fnOf "_law_heaviest" "_law_heaviest" (defArgs s_l_heaviest) (defBody s_l_heaviest) (defScope s_l_heaviest) .none kV_l_heaviest dc_l_heaviest pm_l_heaviest an_l_heaviest cd_l_heaviest ct_l_heaviest), sl_l_heaviest⟩)
    (c_l_heaviest : PySem.W.codeIn K cd_l_heaviest "_law_heaviest" = true)
    (k_l_heaviest : PySem.W.keepIn K (.ref f_l_heaviest) = true)
    (a_l_right : PySem.W.nsIn K mainGlobals "_law_right" = some (some (.ref f_l_right)))
    (l_l_right : K.lookup f_l_right = some ⟨oc_l_right, od_l_right, .func (PySem.W.fnOf "_law_right" "_law_right" (defArgs s_l_right) (defBody s_l_right) (defScope s_l_right) .none kV_l_right dc_l_right pm_l_right an_l_right cd_l_right ct_l_right), sl_l_right⟩)
    (c_l_right : PySem.W.codeIn K cd_l_right "_law_right" = true)
    (k_l_right : PySem.W.keepIn K (.ref f_l_right) = true)
    (a_law : PySem.W.nsIn K mainGlobals "law" = some (some (.ref f_law)))
    (l_law : K.lookup f_law = some ⟨oc_law, od_law, .func (PySem.W.fnOf "law" "law" (defArgs s_law) (defBody s_law) (defScope s_law) .none kV_law dc_law pm_law an_law cd_law ct_law), sl_law⟩)
    (c_law : PySem.W.codeIn K cd_law "law" = true)
    (k_law : PySem.W.keepIn K (.ref f_law) = true)
    (pg_Country : PySem.W.plainGet K C_Country Str.empty = true)
    (hd_Country : PySem.W.hasDictIn K C_Country = true)
    (po_Country : PySem.W.plainOver K C_Country = true)
    (sa_Country : PySem.W.findIn K (.ref C_Country) "__setattr__" = some (some (.builtin "object.__setattr__")))
    (mk_Country : PySem.W.makesIn K C_Country = true)
    (kc_Country : PySem.W.keepIn K (.ref C_Country) = true)
    (ha_Country : PySem.W.findIn K (.ref C_Country) "__class__" = some (some (.builtin "object.__class__")))
    (hm_Country : PySem.W.mroIn K C_Country (.type "object") = some true)
    (ne_Country : PySem.W.findIn K (.ref C_Country) "__ne__" = some (some (.builtin "object.__ne__")))
    (na_Country_lanes : PySem.W.findIn K (.ref C_Country) "_lanes" = some none)
    (na_Country_around : PySem.W.findIn K (.ref C_Country) "_around" = some none)
    (na_Country_ahead : PySem.W.findIn K (.ref C_Country) "_ahead" = some none)
    (na_Country_yards : PySem.W.findIn K (.ref C_Country) "_yards" = some none)
    (na_Country_gates : PySem.W.findIn K (.ref C_Country) "_gates" = some none)
    (pg_Web : PySem.W.plainGet K C_Web Str.empty = true)
    (hd_Web : PySem.W.hasDictIn K C_Web = true)
    (po_Web : PySem.W.plainOver K C_Web = true)
    (sa_Web : PySem.W.findIn K (.ref C_Web) "__setattr__" = some (some (.builtin "object.__setattr__")))
    (mk_Web : PySem.W.makesIn K C_Web = true)
    (kc_Web : PySem.W.keepIn K (.ref C_Web) = true)
    (ha_Web : PySem.W.findIn K (.ref C_Web) "__class__" = some (some (.builtin "object.__class__")))
    (hm_Web : PySem.W.mroIn K C_Web (.type "object") = some true)
    (ne_Web : PySem.W.findIn K (.ref C_Web) "__ne__" = some (some (.builtin "object.__ne__")))
    (na_Web_country : PySem.W.findIn K (.ref C_Web) "_country" = some none)
    (na_Web_books : PySem.W.findIn K (.ref C_Web) "_books" = some none)
    (hn : PySem.W.specialIn K (.builtin "object.__class__") "__get__" = some (some (.builtin "getset_descriptor.__get__")))
    (htk : PySem.W.takesIn K (.builtin "object.__class__") = some true)
    (z_MOST_LANES_AT_A_PLACE : PySem.W.nsIn K mainGlobals "MOST_LANES_AT_A_PLACE" = some (some (.int 4 t_MOST_LANES_AT_A_PLACE)))
    (z_MOST_YARDS : PySem.W.nsIn K mainGlobals "MOST_YARDS" = some (some (.int 7 t_MOST_YARDS)))
    (z_MOST_PLACES : PySem.W.nsIn K mainGlobals "MOST_PLACES" = some (some (.int 6 t_MOST_PLACES)))
    (z_MOST_OF_A_BOUND : PySem.W.nsIn K mainGlobals "MOST_OF_A_BOUND" = some (some (.int 6 t_MOST_OF_A_BOUND)))
    (z_MOST_BOUNDS : PySem.W.nsIn K mainGlobals "MOST_BOUNDS" = some (some (.int 6 t_MOST_BOUNDS)))
    (z_MOST_ALTERNATIVES : PySem.W.nsIn K mainGlobals "MOST_ALTERNATIVES" = some (some (.int 4 t_MOST_ALTERNATIVES)))
    (z_MOST_LOADS : PySem.W.nsIn K mainGlobals "MOST_LOADS" = some (some (.int 400 t_MOST_LOADS)))
    (z_abs : PySem.W.nsIn K mainGlobals "abs" = some none)
    (z_all : PySem.W.nsIn K mainGlobals "all" = some none)
    (z_any : PySem.W.nsIn K mainGlobals "any" = some none)
    (z_bool : PySem.W.nsIn K mainGlobals "bool" = some none)
    (z_divmod : PySem.W.nsIn K mainGlobals "divmod" = some none)
    (z_int : PySem.W.nsIn K mainGlobals "int" = some none)
    (z_isinstance : PySem.W.nsIn K mainGlobals "isinstance" = some none)
    (z_len : PySem.W.nsIn K mainGlobals "len" = some none)
    (z_list : PySem.W.nsIn K mainGlobals "list" = some none)
    (z_max : PySem.W.nsIn K mainGlobals "max" = some none)
    (z_min : PySem.W.nsIn K mainGlobals "min" = some none)
    (z_range : PySem.W.nsIn K mainGlobals "range" = some none)
    (z_repr : PySem.W.nsIn K mainGlobals "repr" = some none)
    (z_sorted : PySem.W.nsIn K mainGlobals "sorted" = some none)
    (z_sum : PySem.W.nsIn K mainGlobals "sum" = some none)
    (z_tuple : PySem.W.nsIn K mainGlobals "tuple" = some none)
    (z_zip : PySem.W.nsIn K mainGlobals "zip" = some none)
    : ∃ fd : FuncData, (∀ (s : Shared) (v : Value), BindsTo s fd ⟨[v], []⟩ [("_law_script", v)]) ∧ ∀ base : Heap, G8.FnOkG P w K mg base CX0 11 fa fd ["_law_script"] (Pr.spLaw K) := by
  have e := hfa.symm.trans (PySem.W.mg_of X G a_law)
  cases e
  have F_is_count := fun_mk (st := s_is_count) l_is_count c_is_count k_is_count
  have b_is_count := F_is_count.binds (ps := ["value"]) fun _ _ _ _ _ _ us hl => match us, hl with | [_], _ => rfl
  have F_is_row := fun_mk (st := s_is_row) l_is_row c_is_row k_is_row
  have b_is_row := F_is_row.binds (ps := ["value"]) fun _ _ _ _ _ _ us hl => match us, hl with | [_], _ => rfl
  have F_Country_init := fun_mk (st := s_Country_init) l_Country_init c_Country_init k_Country_init
  have b_Country_init := F_Country_init.binds (ps := ["self", "lanes"]) fun _ _ _ _ _ _ us hl => match us, hl with | [_, _], _ => rfl
  have F_Country_lanes := fun_mk (st := s_Country_lanes) l_Country_lanes c_Country_lanes k_Country_lanes
  have b_Country_lanes := F_Country_lanes.binds (ps := ["self"]) fun _ _ _ _ _ _ us hl => match us, hl with | [_], _ => rfl
  have F_Country_yards := fun_mk (st := s_Country_yards) l_Country_yards c_Country_yards k_Country_yards
  have b_Country_yards := F_Country_yards.binds (ps := ["self"]) fun _ _ _ _ _ _ us hl => match us, hl with | [_], _ => rfl
  have F_Country_gates := fun_mk (st := s_Country_gates) l_Country_gates c_Country_gates k_Country_gates
  have b_Country_gates := F_Country_gates.binds (ps := ["self"]) fun _ _ _ _ _ _ us hl => match us, hl with | [_], _ => rfl
  have F_Country_neighbours := fun_mk (st := s_Country_neighbours) l_Country_neighbours c_Country_neighbours k_Country_neighbours
  have b_Country_neighbours := F_Country_neighbours.binds (ps := ["self", "place"]) fun _ _ _ _ _ _ us hl => match us, hl with | [_, _], _ => rfl
  have F_Country_ahead := fun_mk (st := s_Country_ahead) l_Country_ahead c_Country_ahead k_Country_ahead
  have b_Country_ahead := F_Country_ahead.binds (ps := ["self", "place", "goal"]) fun _ _ _ _ _ _ us hl => match us, hl with | [_, _, _], _ => rfl
  have F_Country_eq := fun_mk (st := s_Country_eq) l_Country_eq c_Country_eq k_Country_eq
  have b_Country_eq := F_Country_eq.binds (ps := ["self", "other"]) fun _ _ _ _ _ _ us hl => match us, hl with | [_, _], _ => rfl
  have F_is_place := fun_mk (st := s_is_place) l_is_place c_is_place k_is_place
  have b_is_place := F_is_place.binds (ps := ["country", "value"]) fun _ _ _ _ _ _ us hl => match us, hl with | [_, _], _ => rfl
  have F_is_yard := fun_mk (st := s_is_yard) l_is_yard c_is_yard k_is_yard
  have b_is_yard := F_is_yard.binds (ps := ["country", "value"]) fun _ _ _ _ _ _ us hl => match us, hl with | [_, _], _ => rfl
  have F_is_neighbour := fun_mk (st := s_is_neighbour) l_is_neighbour c_is_neighbour k_is_neighbour
  have b_is_neighbour := F_is_neighbour.binds (ps := ["country", "place", "value"]) fun _ _ _ _ _ _ us hl => match us, hl with | [_, _, _], _ => rfl
  have F_are_lanes := fun_mk (st := s_are_lanes) l_are_lanes c_are_lanes k_are_lanes
  have b_are_lanes := F_are_lanes.binds (ps := ["value"]) fun _ _ _ _ _ _ us hl => match us, hl with | [_], _ => rfl
  have F_is_pair_up_to := fun_mk (st := s_is_pair_up_to) l_is_pair_up_to c_is_pair_up_to k_is_pair_up_to
  have b_is_pair_up_to := F_is_pair_up_to.binds (ps := ["value", "last"]) fun _ _ _ _ _ _ us hl => match us, hl with | [_, _], _ => rfl
  have F_neighbours_by_place := fun_mk (st := s_neighbours_by_place) l_neighbours_by_place c_neighbours_by_place k_neighbours_by_place
  have b_neighbours_by_place := F_neighbours_by_place.binds (ps := ["lanes"]) fun _ _ _ _ _ _ us hl => match us, hl with | [_], _ => rfl
  have F_yards_among := fun_mk (st := s_yards_among) l_yards_among c_yards_among k_yards_among
  have b_yards_among := F_yards_among.binds (ps := ["around"]) fun _ _ _ _ _ _ us hl => match us, hl with | [_], _ => rfl
  have F_places_ahead := fun_mk (st := s_places_ahead) l_places_ahead c_places_ahead k_places_ahead
  have b_places_ahead := F_places_ahead.binds (ps := ["around", "goal"]) fun _ _ _ _ _ _ us hl => match us, hl with | [_, _], _ => rfl
  have F_is_among := fun_mk (st := s_is_among) l_is_among c_is_among k_is_among
  have b_is_among := F_is_among.binds (ps := ["around", "value"]) fun _ _ _ _ _ _ us hl => match us, hl with | [_, _], _ => rfl
  have F_is_pair_of := fun_mk (st := s_is_pair_of) l_is_pair_of c_is_pair_of k_is_pair_of
  have b_is_pair_of := F_is_pair_of.binds (ps := ["around", "origin", "target"]) fun _ _ _ _ _ _ us hl => match us, hl with | [_, _, _], _ => rfl
  have F_pairs_of := fun_mk (st := s_pairs_of) l_pairs_of c_pairs_of k_pairs_of
  have b_pairs_of := F_pairs_of.binds (ps := ["around"]) fun _ _ _ _ _ _ us hl => match us, hl with | [_], _ => rfl
  have F_is_bound := fun_mk (st := s_is_bound) l_is_bound c_is_bound k_is_bound
  have b_is_bound := F_is_bound.binds (ps := ["around", "value"]) fun _ _ _ _ _ _ us hl => match us, hl with | [_, _], _ => rfl
  have F_is_alternative := fun_mk (st := s_is_alternative) l_is_alternative c_is_alternative k_is_alternative
  have b_is_alternative := F_is_alternative.binds (ps := ["around", "value"]) fun _ _ _ _ _ _ us hl => match us, hl with | [_, _], _ => rfl
  have F_is_book_of := fun_mk (st := s_is_book_of) l_is_book_of c_is_book_of k_is_book_of
  have b_is_book_of := F_is_book_of.binds (ps := ["around", "value"]) fun _ _ _ _ _ _ us hl => match us, hl with | [_, _], _ => rfl
  have F_is_load_of := fun_mk (st := s_is_load_of) l_is_load_of c_is_load_of k_is_load_of
  have b_is_load_of := F_is_load_of.binds (ps := ["around", "value"]) fun _ _ _ _ _ _ us hl => match us, hl with | [_, _], _ => rfl
  have F_is_entry := fun_mk (st := s_is_entry) l_is_entry c_is_entry k_is_entry
  have b_is_entry := F_is_entry.binds (ps := ["around", "value"]) fun _ _ _ _ _ _ us hl => match us, hl with | [_, _], _ => rfl
  have F_carts_of := fun_mk (st := s_carts_of) l_carts_of c_carts_of k_carts_of
  have b_carts_of := F_carts_of.binds (ps := ["load", "origin", "target"]) fun _ _ _ _ _ _ us hl => match us, hl with | [_, _, _], _ => rfl
  have F_keeps := fun_mk (st := s_keeps) l_keeps c_keeps k_keeps
  have b_keeps := F_keeps.binds (ps := ["load", "bound"]) fun _ _ _ _ _ _ us hl => match us, hl with | [_, _], _ => rfl
  have F_stands_by := fun_mk (st := s_stands_by) l_stands_by c_stands_by k_stands_by
  have b_stands_by := F_stands_by.binds (ps := ["load", "alternative"]) fun _ _ _ _ _ _ us hl => match us, hl with | [_, _], _ => rfl
  have F_stands_in := fun_mk (st := s_stands_in) l_stands_in c_stands_in k_stands_in
  have b_stands_in := F_stands_in.binds (ps := ["load", "book"]) fun _ _ _ _ _ _ us hl => match us, hl with | [_, _], _ => rfl
  have F_copied_book := fun_mk (st := s_copied_book) l_copied_book c_copied_book k_copied_book
  have b_copied_book := F_copied_book.binds (ps := ["book"]) fun _ _ _ _ _ _ us hl => match us, hl with | [_], _ => rfl
  have F_added := fun_mk (st := s_added) l_added c_added k_added
  have b_added := F_added.binds (ps := ["load", "origin", "target"]) fun _ _ _ _ _ _ us hl => match us, hl with | [_, _, _], _ => rfl
  have F_is_within := fun_mk (st := s_is_within) l_is_within c_is_within k_is_within
  have b_is_within := F_is_within.binds (ps := ["load", "other"]) fun _ _ _ _ _ _ us hl => match us, hl with | [_, _], _ => rfl
  have F_check_country := fun_mk (st := s_check_country) l_check_country c_check_country k_check_country
  have b_check_country := F_check_country.binds (ps := ["country"]) fun _ _ _ _ _ _ us hl => match us, hl with | [_], _ => rfl
  have F_check_yard := fun_mk (st := s_check_yard) l_check_yard c_check_yard k_check_yard
  have b_check_yard := F_check_yard.binds (ps := ["country", "yard"]) fun _ _ _ _ _ _ us hl => match us, hl with | [_, _], _ => rfl
  have F_check_country_and_yard := fun_mk (st := s_check_country_and_yard) l_check_country_and_yard c_check_country_and_yard k_check_country_and_yard
  have b_check_country_and_yard := F_check_country_and_yard.binds (ps := ["country", "yard"]) fun _ _ _ _ _ _ us hl => match us, hl with | [_, _], _ => rfl
  have F_check_target := fun_mk (st := s_check_target) l_check_target c_check_target k_check_target
  have b_check_target := F_check_target.binds (ps := ["country", "yard", "target"]) fun _ _ _ _ _ _ us hl => match us, hl with | [_, _, _], _ => rfl
  have F_check_book := fun_mk (st := s_check_book) l_check_book c_check_book k_check_book
  have b_check_book := F_check_book.binds (ps := ["country", "yard", "book"]) fun _ _ _ _ _ _ us hl => match us, hl with | [_, _, _], _ => rfl
  have F_check_load := fun_mk (st := s_check_load) l_check_load c_check_load k_check_load
  have b_check_load := F_check_load.binds (ps := ["country", "yard", "load"]) fun _ _ _ _ _ _ us hl => match us, hl with | [_, _, _], _ => rfl
  have F_Web_init := fun_mk (st := s_Web_init) l_Web_init c_Web_init k_Web_init
  have b_Web_init := F_Web_init.binds (ps := ["self", "country", "books"]) fun _ _ _ _ _ _ us hl => match us, hl with | [_, _, _], _ => rfl
  have F_Web_country := fun_mk (st := s_Web_country) l_Web_country c_Web_country k_Web_country
  have b_Web_country := F_Web_country.binds (ps := ["self"]) fun _ _ _ _ _ _ us hl => match us, hl with | [_], _ => rfl
  have F_Web_books := fun_mk (st := s_Web_books) l_Web_books c_Web_books k_Web_books
  have b_Web_books := F_Web_books.binds (ps := ["self"]) fun _ _ _ _ _ _ us hl => match us, hl with | [_], _ => rfl
  have F_Web_book := fun_mk (st := s_Web_book) l_Web_book c_Web_book k_Web_book
  have b_Web_book := F_Web_book.binds (ps := ["self", "yard"]) fun _ _ _ _ _ _ us hl => match us, hl with | [_, _], _ => rfl
  have F_Web_eq := fun_mk (st := s_Web_eq) l_Web_eq c_Web_eq k_Web_eq
  have b_Web_eq := F_Web_eq.binds (ps := ["self", "other"]) fun _ _ _ _ _ _ us hl => match us, hl with | [_, _], _ => rfl
  have F_check_web := fun_mk (st := s_check_web) l_check_web c_check_web k_check_web
  have b_check_web := F_check_web.binds (ps := ["web"]) fun _ _ _ _ _ _ us hl => match us, hl with | [_], _ => rfl
  have F_is_at_most := fun_mk (st := s_is_at_most) l_is_at_most c_is_at_most k_is_at_most
  have b_is_at_most := F_is_at_most.binds (ps := ["country", "yard", "load", "other"]) fun _ _ _ _ _ _ us hl => match us, hl with | [_, _, _, _], _ => rfl
  have F_lets := fun_mk (st := s_lets) l_lets c_lets k_lets
  have b_lets := F_lets.binds (ps := ["web", "yard", "load"]) fun _ _ _ _ _ _ us hl => match us, hl with | [_, _, _], _ => rfl
  have F_loads_towards := fun_mk (st := s_loads_towards) l_loads_towards c_loads_towards k_loads_towards
  have b_loads_towards := F_loads_towards.binds (ps := ["web", "yard", "target"]) fun _ _ _ _ _ _ us hl => match us, hl with | [_, _, _], _ => rfl
  have F_heaviest := fun_mk (st := s_heaviest) l_heaviest c_heaviest k_heaviest
  have b_heaviest := F_heaviest.binds (ps := ["web", "yard", "target"]) fun _ _ _ _ _ _ us hl => match us, hl with | [_, _, _], _ => rfl
  have F_pairs_towards := fun_mk (st := s_pairs_towards) l_pairs_towards c_pairs_towards k_pairs_towards
  have b_pairs_towards := F_pairs_towards.binds (ps := ["country", "yard", "target"]) fun _ _ _ _ _ _ us hl => match us, hl with | [_, _, _], _ => rfl
  have F_standing_towards := fun_mk (st := s_standing_towards) l_standing_towards c_standing_towards k_standing_towards
  have b_standing_towards := F_standing_towards.binds (ps := ["web", "yard", "target"]) fun _ _ _ _ _ _ us hl => match us, hl with | [_, _, _], _ => rfl
  have F_standing_loads := fun_mk (st := s_standing_loads) l_standing_loads c_standing_loads k_standing_loads
  have b_standing_loads := F_standing_loads.binds (ps := ["book", "pairs"]) fun _ _ _ _ _ _ us hl => match us, hl with | [_, _], _ => rfl
  have F_with_pair := fun_mk (st := s_with_pair) l_with_pair c_with_pair k_with_pair
  have b_with_pair := F_with_pair.binds (ps := ["book", "load", "origin", "target"]) fun _ _ _ _ _ _ us hl => match us, hl with | [_, _, _, _], _ => rfl
  have F_is_greatest := fun_mk (st := s_is_greatest) l_is_greatest c_is_greatest k_is_greatest
  have b_is_greatest := F_is_greatest.binds (ps := ["load", "book", "pairs"]) fun _ _ _ _ _ _ us hl => match us, hl with | [_, _, _], _ => rfl
  have F_l_pot := fun_mk (st := s_l_pot) l_l_pot c_l_pot k_l_pot
  have b_l_pot := F_l_pot.binds (ps := ["_law_script", "_law_k"]) fun _ _ _ _ _ _ us hl => match us, hl with | [_, _], _ => rfl
  have F_l_draw := fun_mk (st := s_l_draw) l_l_draw c_l_draw k_l_draw
  have b_l_draw := F_l_draw.binds (ps := ["_law_pot_here", "_law_many_here"]) fun _ _ _ _ _ _ us hl => match us, hl with | [_, _], _ => rfl
  have F_l_pick := fun_mk (st := s_l_pick) l_l_pick c_l_pick k_l_pick
  have b_l_pick := F_l_pick.binds (ps := ["_law_pot_here", "_law_some"]) fun _ _ _ _ _ _ us hl => match us, hl with | [_, _], _ => rfl
  have F_l_mixed := fun_mk (st := s_l_mixed) l_l_mixed c_l_mixed k_l_mixed
  have b_l_mixed := F_l_mixed.binds (ps := ["_law_pot_here", "_law_some"]) fun _ _ _ _ _ _ us hl => match us, hl with | [_, _], _ => rfl
  have F_l_lanes := fun_mk (st := s_l_lanes) l_l_lanes c_l_lanes k_l_lanes
  have b_l_lanes := F_l_lanes.binds (ps := ["_law_pot_here", "_law_many_here"]) fun _ _ _ _ _ _ us hl => match us, hl with | [_, _], _ => rfl
  have F_l_renumbered := fun_mk (st := s_l_renumbered) l_l_renumbered c_l_renumbered k_l_renumbered
  have b_l_renumbered := F_l_renumbered.binds (ps := ["_law_pot_here", "_law_lanes_here"]) fun _ _ _ _ _ _ us hl => match us, hl with | [_, _], _ => rfl
  have F_l_beside := fun_mk (st := s_l_beside) l_l_beside c_l_beside k_l_beside
  have b_l_beside := F_l_beside.binds (ps := ["_law_lanes_here", "_law_place"]) fun _ _ _ _ _ _ us hl => match us, hl with | [_, _], _ => rfl
  have F_l_yards := fun_mk (st := s_l_yards) l_l_yards c_l_yards k_l_yards
  have b_l_yards := F_l_yards.binds (ps := ["_law_lanes_here"]) fun _ _ _ _ _ _ us hl => match us, hl with | [_], _ => rfl
  have F_l_pairs := fun_mk (st := s_l_pairs) l_l_pairs c_l_pairs k_l_pairs
  have b_l_pairs := F_l_pairs.binds (ps := ["_law_near"]) fun _ _ _ _ _ _ us hl => match us, hl with | [_], _ => rfl
  have F_l_book := fun_mk (st := s_l_book) l_l_book c_l_book k_l_book
  have b_l_book := F_l_book.binds (ps := ["_law_pot_here", "_law_near", "_law_most"]) fun _ _ _ _ _ _ us hl => match us, hl with | [_, _, _], _ => rfl
  have F_l_many := fun_mk (st := s_l_many) l_l_many c_l_many k_l_many
  have b_l_many := F_l_many.binds (ps := ["_law_load", "_law_origin", "_law_target"]) fun _ _ _ _ _ _ us hl => match us, hl with | [_, _, _], _ => rfl
  have F_l_stands := fun_mk (st := s_l_stands) l_l_stands c_l_stands k_l_stands
  have b_l_stands := F_l_stands.binds (ps := ["_law_book_here", "_law_load"]) fun _ _ _ _ _ _ us hl => match us, hl with | [_, _], _ => rfl
  have F_l_more := fun_mk (st := s_l_more) l_l_more c_l_more k_l_more
  have b_l_more := F_l_more.binds (ps := ["_law_load", "_law_origin", "_law_target"]) fun _ _ _ _ _ _ us hl => match us, hl with | [_, _, _], _ => rfl
  have F_l_standing := fun_mk (st := s_l_standing) l_l_standing c_l_standing k_l_standing
  have b_l_standing := F_l_standing.binds (ps := ["_law_book_here", "_law_pairs_here"]) fun _ _ _ _ _ _ us hl => match us, hl with | [_, _], _ => rfl
  have F_l_towards := fun_mk (st := s_l_towards) l_l_towards c_l_towards k_l_towards
  have b_l_towards := F_l_towards.binds (ps := ["_law_book_here", "_law_near", "_law_target"]) fun _ _ _ _ _ _ us hl => match us, hl with | [_, _, _], _ => rfl
  have F_l_heaviest := fun_mk (st := s_l_heaviest) l_l_heaviest c_l_heaviest k_l_heaviest
  have b_l_heaviest := F_l_heaviest.binds (ps := ["_law_book_here", "_law_near", "_law_target"]) fun _ _ _ _ _ _ us hl => match us, hl with | [_, _, _], _ => rfl
  have F_l_right := fun_mk (st := s_l_right) l_l_right c_l_right k_l_right
  have b_l_right := F_l_right.binds (ps := ["_law_pot_here"]) fun _ _ _ _ _ _ us hl => match us, hl with | [_], _ => rfl
  have F_law := fun_mk (st := s_law) l_law c_law k_law
  have b_law := F_law.binds (ps := ["_law_script"]) fun _ _ _ _ _ _ us hl => match us, hl with | [_], _ => rfl
  have cl_Country : Cls K C_Country := ⟨pg_Country, hd_Country, po_Country, sa_Country⟩
  have cl_Web : Cls K C_Web := ⟨pg_Web, hd_Web, po_Web, sa_Web⟩
  have T : Txt K mg { is_count := f_is_count, is_count_fd := (PySem.W.fnOf "is_count" "is_count" (defArgs s_is_count) (defBody s_is_count) (defScope s_is_count) .none kV_is_count dc_is_count pm_is_count an_is_count cd_is_count ct_is_count), is_row := f_is_row, is_row_fd := (PySem.W.fnOf "is_row" "is_row" (defArgs s_is_row) (defBody s_is_row) (defScope s_is_row) .none kV_is_row dc_is_row pm_is_row an_is_row cd_is_row ct_is_row), Country_init := f_Country_init, Country_init_fd := (PySem.W.fnOf "__init__" "Country.__init__" (defArgs s_Country_init) (defBody s_Country_init) (defScope s_Country_init) .none kV_Country_init dc_Country_init pm_Country_init an_Country_init cd_Country_init ct_Country_init), Country_lanes := f_Country_lanes, Country_lanes_fd := (PySem.W.fnOf "lanes" "Country.lanes" (defArgs s_Country_lanes) (defBody s_Country_lanes) (defScope s_Country_lanes) .none kV_Country_lanes dc_Country_lanes pm_Country_lanes an_Country_lanes cd_Country_lanes ct_Country_lanes), Country_lanes_p := p_Country_lanes, Country_yards := f_Country_yards, Country_yards_fd := (PySem.W.fnOf "yards" "Country.yards" (defArgs s_Country_yards) (defBody s_Country_yards) (defScope s_Country_yards) .none kV_Country_yards dc_Country_yards pm_Country_yards an_Country_yards cd_Country_yards ct_Country_yards), Country_yards_p := p_Country_yards, Country_gates := f_Country_gates, Country_gates_fd := (PySem.W.fnOf "gates" "Country.gates" (defArgs s_Country_gates) (defBody s_Country_gates) (defScope s_Country_gates) .none kV_Country_gates dc_Country_gates pm_Country_gates an_Country_gates cd_Country_gates ct_Country_gates), Country_gates_p := p_Country_gates, Country_neighbours := f_Country_neighbours, Country_neighbours_fd := (PySem.W.fnOf "neighbours" "Country.neighbours" (defArgs s_Country_neighbours) (defBody s_Country_neighbours) (defScope s_Country_neighbours) .none kV_Country_neighbours dc_Country_neighbours pm_Country_neighbours an_Country_neighbours cd_Country_neighbours ct_Country_neighbours), Country_ahead := f_Country_ahead, Country_ahead_fd := (PySem.W.fnOf "ahead" "Country.ahead" (defArgs s_Country_ahead) (defBody s_Country_ahead) (defScope s_Country_ahead) .none kV_Country_ahead dc_Country_ahead pm_Country_ahead an_Country_ahead cd_Country_ahead ct_Country_ahead), Country_eq := f_Country_eq, Country_eq_fd := (PySem.W.fnOf "__eq__" "Country.__eq__" (defArgs s_Country_eq) (defBody s_Country_eq) (defScope s_Country_eq) .none kV_Country_eq dc_Country_eq pm_Country_eq an_Country_eq cd_Country_eq ct_Country_eq), is_place := f_is_place, is_place_fd := (PySem.W.fnOf "is_place" "is_place" (defArgs s_is_place) (defBody s_is_place) (defScope s_is_place) .none kV_is_place dc_is_place pm_is_place an_is_place cd_is_place ct_is_place), is_yard := f_is_yard, is_yard_fd := (PySem.W.fnOf "is_yard" "is_yard" (defArgs s_is_yard) (defBody s_is_yard) (defScope s_is_yard) .none kV_is_yard dc_is_yard pm_is_yard an_is_yard cd_is_yard ct_is_yard), is_neighbour := f_is_neighbour, is_neighbour_fd := (PySem.W.fnOf "is_neighbour" "is_neighbour" (defArgs s_is_neighbour) (defBody s_is_neighbour) (defScope s_is_neighbour) .none kV_is_neighbour dc_is_neighbour pm_is_neighbour an_is_neighbour cd_is_neighbour ct_is_neighbour), are_lanes := f_are_lanes, are_lanes_fd := (PySem.W.fnOf "are_lanes" "are_lanes" (defArgs s_are_lanes) (defBody s_are_lanes) (defScope s_are_lanes) .none kV_are_lanes dc_are_lanes pm_are_lanes an_are_lanes cd_are_lanes ct_are_lanes), is_pair_up_to := f_is_pair_up_to, is_pair_up_to_fd := (PySem.W.fnOf "is_pair_up_to" "is_pair_up_to" (defArgs s_is_pair_up_to) (defBody s_is_pair_up_to) (defScope s_is_pair_up_to) .none kV_is_pair_up_to dc_is_pair_up_to pm_is_pair_up_to an_is_pair_up_to cd_is_pair_up_to ct_is_pair_up_to), neighbours_by_place := f_neighbours_by_place, neighbours_by_place_fd := (PySem.W.fnOf "neighbours_by_place" "neighbours_by_place" (defArgs s_neighbours_by_place) (defBody s_neighbours_by_place) (defScope s_neighbours_by_place) .none kV_neighbours_by_place dc_neighbours_by_place pm_neighbours_by_place an_neighbours_by_place cd_neighbours_by_place ct_neighbours_by_place), yards_among := f_yards_among, yards_among_fd := (PySem.W.fnOf "yards_among" "yards_among" (defArgs s_yards_among) (defBody s_yards_among) (defScope s_yards_among) .none kV_yards_among dc_yards_among pm_yards_among an_yards_among cd_yards_among ct_yards_among), places_ahead := f_places_ahead, places_ahead_fd := (PySem.W.fnOf "places_ahead" "places_ahead" (defArgs s_places_ahead) (defBody s_places_ahead) (defScope s_places_ahead) .none kV_places_ahead dc_places_ahead pm_places_ahead an_places_ahead cd_places_ahead ct_places_ahead), is_among := f_is_among, is_among_fd := (PySem.W.fnOf "is_among" "is_among" (defArgs s_is_among) (defBody s_is_among) (defScope s_is_among) .none kV_is_among dc_is_among pm_is_among an_is_among cd_is_among ct_is_among), is_pair_of := f_is_pair_of, is_pair_of_fd := (PySem.W.fnOf "is_pair_of" "is_pair_of" (defArgs s_is_pair_of) (defBody s_is_pair_of) (defScope s_is_pair_of) .none kV_is_pair_of dc_is_pair_of pm_is_pair_of an_is_pair_of cd_is_pair_of ct_is_pair_of), pairs_of := f_pairs_of, pairs_of_fd := (PySem.W.fnOf "pairs_of" "pairs_of" (defArgs s_pairs_of) (defBody s_pairs_of) (defScope s_pairs_of) .none kV_pairs_of dc_pairs_of pm_pairs_of an_pairs_of cd_pairs_of ct_pairs_of), is_bound := f_is_bound, is_bound_fd := (PySem.W.fnOf "is_bound" "is_bound" (defArgs s_is_bound) (defBody s_is_bound) (defScope s_is_bound) .none kV_is_bound dc_is_bound pm_is_bound an_is_bound cd_is_bound ct_is_bound), is_alternative := f_is_alternative, is_alternative_fd := (PySem.W.fnOf "is_alternative" "is_alternative" (defArgs s_is_alternative) (defBody s_is_alternative) (defScope s_is_alternative) .none kV_is_alternative dc_is_alternative pm_is_alternative an_is_alternative cd_is_alternative ct_is_alternative), is_book_of := f_is_book_of, is_book_of_fd := (PySem.W.fnOf "is_book_of" "is_book_of" (defArgs s_is_book_of) (defBody s_is_book_of) (defScope s_is_book_of) .none kV_is_book_of dc_is_book_of pm_is_book_of an_is_book_of cd_is_book_of ct_is_book_of), is_load_of := f_is_load_of, is_load_of_fd := (PySem.W.fnOf "is_load_of" "is_load_of" (defArgs s_is_load_of) (defBody s_is_load_of) (defScope s_is_load_of) .none kV_is_load_of dc_is_load_of pm_is_load_of an_is_load_of cd_is_load_of ct_is_load_of), is_entry := f_is_entry, is_entry_fd := (PySem.W.fnOf "is_entry" "is_entry" (defArgs s_is_entry) (defBody s_is_entry) (defScope s_is_entry) .none kV_is_entry dc_is_entry pm_is_entry an_is_entry cd_is_entry ct_is_entry), carts_of := f_carts_of, carts_of_fd := (PySem.W.fnOf "carts_of" "carts_of" (defArgs s_carts_of) (defBody s_carts_of) (defScope s_carts_of) .none kV_carts_of dc_carts_of pm_carts_of an_carts_of cd_carts_of ct_carts_of), keeps := f_keeps, keeps_fd := (PySem.W.fnOf "keeps" "keeps" (defArgs s_keeps) (defBody s_keeps) (defScope s_keeps) .none kV_keeps dc_keeps pm_keeps an_keeps cd_keeps ct_keeps), stands_by := f_stands_by, stands_by_fd := (PySem.W.fnOf "stands_by" "stands_by" (defArgs s_stands_by) (defBody s_stands_by) (defScope s_stands_by) .none kV_stands_by dc_stands_by pm_stands_by an_stands_by cd_stands_by ct_stands_by), stands_in := f_stands_in, stands_in_fd := (PySem.W.fnOf "stands_in" "stands_in" (defArgs s_stands_in) (defBody s_stands_in) (defScope s_stands_in) .none kV_stands_in dc_stands_in pm_stands_in an_stands_in cd_stands_in ct_stands_in), copied_book := f_copied_book, copied_book_fd := (PySem.W.fnOf "copied_book" "copied_book" (defArgs s_copied_book) (defBody s_copied_book) (defScope s_copied_book) .none kV_copied_book dc_copied_book pm_copied_book an_copied_book cd_copied_book ct_copied_book), added := f_added, added_fd := (PySem.W.fnOf "added" "added" (defArgs s_added) (defBody s_added) (defScope s_added) .none kV_added dc_added pm_added an_added cd_added ct_added), is_within := f_is_within, is_within_fd := (PySem.W.fnOf "is_within" "is_within" (defArgs s_is_within) (defBody s_is_within) (defScope s_is_within) .none kV_is_within dc_is_within pm_is_within an_is_within cd_is_within ct_is_within), check_country := f_check_country, check_country_fd := (PySem.W.fnOf "check_country" "check_country" (defArgs s_check_country) (defBody s_check_country) (defScope s_check_country) .none kV_check_country dc_check_country pm_check_country an_check_country cd_check_country ct_check_country), check_yard := f_check_yard, check_yard_fd := (PySem.W.fnOf "check_yard" "check_yard" (defArgs s_check_yard) (defBody s_check_yard) (defScope s_check_yard) .none kV_check_yard dc_check_yard pm_check_yard an_check_yard cd_check_yard ct_check_yard), check_country_and_yard := f_check_country_and_yard, check_country_and_yard_fd := (PySem.W.fnOf "check_country_and_yard" "check_country_and_yard" (defArgs s_check_country_and_yard) (defBody s_check_country_and_yard) (defScope s_check_country_and_yard) .none kV_check_country_and_yard dc_check_country_and_yard pm_check_country_and_yard an_check_country_and_yard cd_check_country_and_yard ct_check_country_and_yard), check_target := f_check_target, check_target_fd := (PySem.W.fnOf "check_target" "check_target" (defArgs s_check_target) (defBody s_check_target) (defScope s_check_target) .none kV_check_target dc_check_target pm_check_target an_check_target cd_check_target ct_check_target), check_book := f_check_book, check_book_fd := (PySem.W.fnOf "check_book" "check_book" (defArgs s_check_book) (defBody s_check_book) (defScope s_check_book) .none kV_check_book dc_check_book pm_check_book an_check_book cd_check_book ct_check_book), check_load := f_check_load, check_load_fd := (PySem.W.fnOf "check_load" "check_load" (defArgs s_check_load) (defBody s_check_load) (defScope s_check_load) .none kV_check_load dc_check_load pm_check_load an_check_load cd_check_load ct_check_load), Web_init := f_Web_init, Web_init_fd := (PySem.W.fnOf "__init__" "Web.__init__" (defArgs s_Web_init) (defBody s_Web_init) (defScope s_Web_init) .none kV_Web_init dc_Web_init pm_Web_init an_Web_init cd_Web_init ct_Web_init), Web_country := f_Web_country, Web_country_fd := (PySem.W.fnOf "country" "Web.country" (defArgs s_Web_country) (defBody s_Web_country) (defScope s_Web_country) .none kV_Web_country dc_Web_country pm_Web_country an_Web_country cd_Web_country ct_Web_country), Web_country_p := p_Web_country, Web_books := f_Web_books, Web_books_fd := (PySem.W.fnOf "books" "Web.books" (defArgs s_Web_books) (defBody s_Web_books) (defScope s_Web_books) .none kV_Web_books dc_Web_books pm_Web_books an_Web_books cd_Web_books ct_Web_books), Web_books_p := p_Web_books, Web_book := f_Web_book, Web_book_fd := (PySem.W.fnOf "book" "Web.book" (defArgs s_Web_book) (defBody s_Web_book) (defScope s_Web_book) .none kV_Web_book dc_Web_book pm_Web_book an_Web_book cd_Web_book ct_Web_book), Web_eq := f_Web_eq, Web_eq_fd := (PySem.W.fnOf "__eq__" "Web.__eq__" (defArgs s_Web_eq) (defBody s_Web_eq) (defScope s_Web_eq) .none kV_Web_eq dc_Web_eq pm_Web_eq an_Web_eq cd_Web_eq ct_Web_eq), check_web := f_check_web, check_web_fd := (PySem.W.fnOf "check_web" "check_web" (defArgs s_check_web) (defBody s_check_web) (defScope s_check_web) .none kV_check_web dc_check_web pm_check_web an_check_web cd_check_web ct_check_web), is_at_most := f_is_at_most, is_at_most_fd := (PySem.W.fnOf "is_at_most" "is_at_most" (defArgs s_is_at_most) (defBody s_is_at_most) (defScope s_is_at_most) .none kV_is_at_most dc_is_at_most pm_is_at_most an_is_at_most cd_is_at_most ct_is_at_most), lets := f_lets, lets_fd := (PySem.W.fnOf "lets" "lets" (defArgs s_lets) (defBody s_lets) (defScope s_lets) .none kV_lets dc_lets pm_lets an_lets cd_lets ct_lets), loads_towards := f_loads_towards, loads_towards_fd := (PySem.W.fnOf "loads_towards" "loads_towards" (defArgs s_loads_towards) (defBody s_loads_towards) (defScope s_loads_towards) .none kV_loads_towards dc_loads_towards pm_loads_towards an_loads_towards cd_loads_towards ct_loads_towards), heaviest := f_heaviest, heaviest_fd := (PySem.W.fnOf "heaviest" "heaviest" (defArgs s_heaviest) (defBody s_heaviest) (defScope s_heaviest) .none kV_heaviest dc_heaviest pm_heaviest an_heaviest cd_heaviest ct_heaviest), pairs_towards := f_pairs_towards, pairs_towards_fd := (PySem.W.fnOf "pairs_towards" "pairs_towards" (defArgs s_pairs_towards) (defBody s_pairs_towards) (defScope s_pairs_towards) .none kV_pairs_towards dc_pairs_towards pm_pairs_towards an_pairs_towards cd_pairs_towards ct_pairs_towards), standing_towards := f_standing_towards, standing_towards_fd := (PySem.W.fnOf "standing_towards" "standing_towards" (defArgs s_standing_towards) (defBody s_standing_towards) (defScope s_standing_towards) .none kV_standing_towards dc_standing_towards pm_standing_towards an_standing_towards cd_standing_towards ct_standing_towards), standing_loads := f_standing_loads, standing_loads_fd := (PySem.W.fnOf "standing_loads" "standing_loads" (defArgs s_standing_loads) (defBody s_standing_loads) (defScope s_standing_loads) .none kV_standing_loads dc_standing_loads pm_standing_loads an_standing_loads cd_standing_loads ct_standing_loads), with_pair := f_with_pair, with_pair_fd := (PySem.W.fnOf "with_pair" "with_pair" (defArgs s_with_pair) (defBody s_with_pair) (defScope s_with_pair) .none kV_with_pair dc_with_pair pm_with_pair an_with_pair cd_with_pair ct_with_pair), is_greatest := f_is_greatest, is_greatest_fd := (PySem.W.fnOf "is_greatest" "is_greatest" (defArgs s_is_greatest) (defBody s_is_greatest) (defScope s_is_greatest) .none kV_is_greatest dc_is_greatest pm_is_greatest an_is_greatest cd_is_greatest ct_is_greatest), l_pot := f_l_pot, l_pot_fd := (PySem.W.fnOf "_law_pot" "_law_pot" (defArgs s_l_pot) (defBody s_l_pot) (defScope s_l_pot) .none kV_l_pot dc_l_pot pm_l_pot an_l_pot cd_l_pot ct_l_pot), l_draw := f_l_draw, l_draw_fd := (PySem.W.fnOf "_law_draw" "_law_draw" (defArgs s_l_draw) (defBody s_l_draw) (defScope s_l_draw) .none kV_l_draw dc_l_draw pm_l_draw an_l_draw cd_l_draw ct_l_draw), l_pick := f_l_pick, l_pick_fd := (PySem.W.fnOf "_law_pick" "_law_pick" (defArgs s_l_pick) (defBody s_l_pick) (defScope s_l_pick) .none kV_l_pick dc_l_pick pm_l_pick an_l_pick cd_l_pick ct_l_pick), l_mixed := f_l_mixed, l_mixed_fd := (PySem.W.fnOf "_law_mixed" "_law_mixed" (defArgs s_l_mixed) (defBody s_l_mixed) (defScope s_l_mixed) .none kV_l_mixed dc_l_mixed pm_l_mixed an_l_mixed cd_l_mixed ct_l_mixed), l_lanes := f_l_lanes, l_lanes_fd := (PySem.W.fnOf "_law_lanes" "_law_lanes" (defArgs s_l_lanes) (defBody s_l_lanes) (defScope s_l_lanes) .none kV_l_lanes dc_l_lanes pm_l_lanes an_l_lanes cd_l_lanes ct_l_lanes), l_renumbered := f_l_renumbered, l_renumbered_fd := (PySem.W.fnOf "_law_renumbered" "_law_renumbered" (defArgs s_l_renumbered) (defBody s_l_renumbered) (defScope s_l_renumbered) .none kV_l_renumbered dc_l_renumbered pm_l_renumbered an_l_renumbered cd_l_renumbered ct_l_renumbered), l_beside := f_l_beside, l_beside_fd := (PySem.W.fnOf "_law_beside" "_law_beside" (defArgs s_l_beside) (defBody s_l_beside) (defScope s_l_beside) .none kV_l_beside dc_l_beside pm_l_beside an_l_beside cd_l_beside ct_l_beside), l_yards := f_l_yards, l_yards_fd := (PySem.W.fnOf "_law_yards" "_law_yards" (defArgs s_l_yards) (defBody s_l_yards) (defScope s_l_yards) .none kV_l_yards dc_l_yards pm_l_yards an_l_yards cd_l_yards ct_l_yards), l_pairs := f_l_pairs, l_pairs_fd := (PySem.W.fnOf "_law_pairs" "_law_pairs" (defArgs s_l_pairs) (defBody s_l_pairs) (defScope s_l_pairs) .none kV_l_pairs dc_l_pairs pm_l_pairs an_l_pairs cd_l_pairs ct_l_pairs), l_book := f_l_book, l_book_fd := (PySem.W.fnOf "_law_book" "_law_book" (defArgs s_l_book) (defBody s_l_book) (defScope s_l_book) .none kV_l_book dc_l_book pm_l_book an_l_book cd_l_book ct_l_book), l_many := f_l_many, l_many_fd := (PySem.W.fnOf "_law_many" "_law_many" (defArgs s_l_many) (defBody s_l_many) (defScope s_l_many) .none kV_l_many dc_l_many pm_l_many an_l_many cd_l_many ct_l_many), l_stands := f_l_stands, l_stands_fd := (PySem.W.fnOf "_law_stands" "_law_stands" (defArgs s_l_stands) (defBody s_l_stands) (defScope s_l_stands) .none kV_l_stands dc_l_stands pm_l_stands an_l_stands cd_l_stands ct_l_stands), l_more := f_l_more, l_more_fd := (PySem.W.fnOf "_law_more" "_law_more" (defArgs s_l_more) (defBody s_l_more) (defScope s_l_more) .none kV_l_more dc_l_more pm_l_more an_l_more cd_l_more ct_l_more), l_standing := f_l_standing, l_standing_fd := (PySem.W.fnOf "_law_standing" "_law_standing" (defArgs s_l_standing) (defBody s_l_standing) (defScope s_l_standing) .none kV_l_standing dc_l_standing pm_l_standing an_l_standing cd_l_standing ct_l_standing), l_towards := f_l_towards, l_towards_fd := (PySem.W.fnOf "_law_towards" "_law_towards" (defArgs s_l_towards) (defBody s_l_towards) (defScope s_l_towards) .none kV_l_towards dc_l_towards pm_l_towards an_l_towards cd_l_towards ct_l_towards), l_heaviest := f_l_heaviest, l_heaviest_fd := (PySem.W.fnOf "_law_heaviest" "_law_heaviest" (defArgs s_l_heaviest) (defBody s_l_heaviest) (defScope s_l_heaviest) .none kV_l_heaviest dc_l_heaviest pm_l_heaviest an_l_heaviest cd_l_heaviest ct_l_heaviest), l_right := f_l_right, l_right_fd := (PySem.W.fnOf "_law_right" "_law_right" (defArgs s_l_right) (defBody s_l_right) (defScope s_l_right) .none kV_l_right dc_l_right pm_l_right an_l_right cd_l_right ct_l_right), law := fa, law_fd := (PySem.W.fnOf "law" "law" (defArgs s_law) (defBody s_law) (defScope s_law) .none kV_law dc_law pm_law an_law cd_law ct_law), Country := C_Country, Web := C_Web } := { F_is_count := F_is_count, b_is_count := b_is_count, m_is_count := PySem.W.mg_of X G a_is_count, F_is_row := F_is_row, b_is_row := b_is_row, m_is_row := PySem.W.mg_of X G a_is_row, F_Country_init := F_Country_init, b_Country_init := b_Country_init, F_Country_lanes := F_Country_lanes, b_Country_lanes := b_Country_lanes, pr_Country_lanes := ⟨a_Country_lanes, g_Country_lanes, t_Country_lanes, _, r_Country_lanes⟩, F_Country_yards := F_Country_yards, b_Country_yards := b_Country_yards, pr_Country_yards := ⟨a_Country_yards, g_Country_yards, t_Country_yards, _, r_Country_yards⟩, F_Country_gates := F_Country_gates, b_Country_gates := b_Country_gates, pr_Country_gates := ⟨a_Country_gates, g_Country_gates, t_Country_gates, _, r_Country_gates⟩, F_Country_neighbours := F_Country_neighbours, b_Country_neighbours := b_Country_neighbours, me_Country_neighbours := ⟨a_Country_neighbours, i_Country_neighbours, k_Country_neighbours⟩, F_Country_ahead := F_Country_ahead, b_Country_ahead := b_Country_ahead, me_Country_ahead := ⟨a_Country_ahead, i_Country_ahead, k_Country_ahead⟩, F_Country_eq := F_Country_eq, b_Country_eq := b_Country_eq, me_Country_eq := ⟨a_Country_eq, i_Country_eq, k_Country_eq⟩, F_is_place := F_is_place, b_is_place := b_is_place, m_is_place := PySem.W.mg_of X G a_is_place, F_is_yard := F_is_yard, b_is_yard := b_is_yard, m_is_yard := PySem.W.mg_of X G a_is_yard, F_is_neighbour := F_is_neighbour, b_is_neighbour := b_is_neighbour, m_is_neighbour := PySem.W.mg_of X G a_is_neighbour, F_are_lanes := F_are_lanes, b_are_lanes := b_are_lanes, m_are_lanes := PySem.W.mg_of X G a_are_lanes, F_is_pair_up_to := F_is_pair_up_to, b_is_pair_up_to := b_is_pair_up_to, m_is_pair_up_to := PySem.W.mg_of X G a_is_pair_up_to, F_neighbours_by_place := F_neighbours_by_place, b_neighbours_by_place := b_neighbours_by_place, m_neighbours_by_place := PySem.W.mg_of X G a_neighbours_by_place, F_yards_among := F_yards_among, b_yards_among := b_yards_among, m_yards_among := PySem.W.mg_of X G a_yards_among, F_places_ahead := F_places_ahead, b_places_ahead := b_places_ahead, m_places_ahead := PySem.W.mg_of X G a_places_ahead, F_is_among := F_is_among, b_is_among := b_is_among, m_is_among := PySem.W.mg_of X G a_is_among, F_is_pair_of := F_is_pair_of, b_is_pair_of := b_is_pair_of, m_is_pair_of := PySem.W.mg_of X G a_is_pair_of, F_pairs_of := F_pairs_of, b_pairs_of := b_pairs_of, m_pairs_of := PySem.W.mg_of X G a_pairs_of, F_is_bound := F_is_bound, b_is_bound := b_is_bound, m_is_bound := PySem.W.mg_of X G a_is_bound, F_is_alternative := F_is_alternative, b_is_alternative := b_is_alternative, m_is_alternative := PySem.W.mg_of X G a_is_alternative, F_is_book_of := F_is_book_of, b_is_book_of := b_is_book_of, m_is_book_of := PySem.W.mg_of X G a_is_book_of, F_is_load_of := F_is_load_of, b_is_load_of := b_is_load_of, m_is_load_of := PySem.W.mg_of X G a_is_load_of, F_is_entry := F_is_entry, b_is_entry := b_is_entry, m_is_entry := PySem.W.mg_of X G a_is_entry, F_carts_of := F_carts_of, b_carts_of := b_carts_of, m_carts_of := PySem.W.mg_of X G a_carts_of, F_keeps := F_keeps, b_keeps := b_keeps, m_keeps := PySem.W.mg_of X G a_keeps, F_stands_by := F_stands_by, b_stands_by := b_stands_by, m_stands_by := PySem.W.mg_of X G a_stands_by, F_stands_in := F_stands_in, b_stands_in := b_stands_in, m_stands_in := PySem.W.mg_of X G a_stands_in, F_copied_book := F_copied_book, b_copied_book := b_copied_book, m_copied_book := PySem.W.mg_of X G a_copied_book, F_added := F_added, b_added := b_added, m_added := PySem.W.mg_of X G a_added, F_is_within := F_is_within, b_is_within := b_is_within, m_is_within := PySem.W.mg_of X G a_is_within, F_check_country := F_check_country, b_check_country := b_check_country, m_check_country := PySem.W.mg_of X G a_check_country, F_check_yard := F_check_yard, b_check_yard := b_check_yard, m_check_yard := PySem.W.mg_of X G a_check_yard, F_check_country_and_yard := F_check_country_and_yard, b_check_country_and_yard := b_check_country_and_yard, m_check_country_and_yard := PySem.W.mg_of X G a_check_country_and_yard, F_check_target := F_check_target, b_check_target := b_check_target, m_check_target := PySem.W.mg_of X G a_check_target, F_check_book := F_check_book, b_check_book := b_check_book, m_check_book := PySem.W.mg_of X G a_check_book, F_check_load := F_check_load, b_check_load := b_check_load, m_check_load := PySem.W.mg_of X G a_check_load, F_Web_init := F_Web_init, b_Web_init := b_Web_init, F_Web_country := F_Web_country, b_Web_country := b_Web_country, pr_Web_country := ⟨a_Web_country, g_Web_country, t_Web_country, _, r_Web_country⟩, F_Web_books := F_Web_books, b_Web_books := b_Web_books, pr_Web_books := ⟨a_Web_books, g_Web_books, t_Web_books, _, r_Web_books⟩, F_Web_book := F_Web_book, b_Web_book := b_Web_book, me_Web_book := ⟨a_Web_book, i_Web_book, k_Web_book⟩, F_Web_eq := F_Web_eq, b_Web_eq := b_Web_eq, me_Web_eq := ⟨a_Web_eq, i_Web_eq, k_Web_eq⟩, F_check_web := F_check_web, b_check_web := b_check_web, m_check_web := PySem.W.mg_of X G a_check_web, F_is_at_most := F_is_at_most, b_is_at_most := b_is_at_most, m_is_at_most := PySem.W.mg_of X G a_is_at_most, F_lets := F_lets, b_lets := b_lets, m_lets := PySem.W.mg_of X G a_lets, F_loads_towards := F_loads_towards, b_loads_towards := b_loads_towards, m_loads_towards := PySem.W.mg_of X G a_loads_towards, F_heaviest := F_heaviest, b_heaviest := b_heaviest, m_heaviest := PySem.W.mg_of X G a_heaviest, F_pairs_towards := F_pairs_towards, b_pairs_towards := b_pairs_towards, m_pairs_towards := PySem.W.mg_of X G a_pairs_towards, F_standing_towards := F_standing_towards, b_standing_towards := b_standing_towards, m_standing_towards := PySem.W.mg_of X G a_standing_towards, F_standing_loads := F_standing_loads, b_standing_loads := b_standing_loads, m_standing_loads := PySem.W.mg_of X G a_standing_loads, F_with_pair := F_with_pair, b_with_pair := b_with_pair, m_with_pair := PySem.W.mg_of X G a_with_pair, F_is_greatest := F_is_greatest, b_is_greatest := b_is_greatest, m_is_greatest := PySem.W.mg_of X G a_is_greatest, F_l_pot := F_l_pot, b_l_pot := b_l_pot, m_l_pot := PySem.W.mg_of X G a_l_pot, F_l_draw := F_l_draw, b_l_draw := b_l_draw, m_l_draw := PySem.W.mg_of X G a_l_draw, F_l_pick := F_l_pick, b_l_pick := b_l_pick, m_l_pick := PySem.W.mg_of X G a_l_pick, F_l_mixed := F_l_mixed, b_l_mixed := b_l_mixed, m_l_mixed := PySem.W.mg_of X G a_l_mixed, F_l_lanes := F_l_lanes, b_l_lanes := b_l_lanes, m_l_lanes := PySem.W.mg_of X G a_l_lanes, F_l_renumbered := F_l_renumbered, b_l_renumbered := b_l_renumbered, m_l_renumbered := PySem.W.mg_of X G a_l_renumbered, F_l_beside := F_l_beside, b_l_beside := b_l_beside, m_l_beside := PySem.W.mg_of X G a_l_beside, F_l_yards := F_l_yards, b_l_yards := b_l_yards, m_l_yards := PySem.W.mg_of X G a_l_yards, F_l_pairs := F_l_pairs, b_l_pairs := b_l_pairs, m_l_pairs := PySem.W.mg_of X G a_l_pairs, F_l_book := F_l_book, b_l_book := b_l_book, m_l_book := PySem.W.mg_of X G a_l_book, F_l_many := F_l_many, b_l_many := b_l_many, m_l_many := PySem.W.mg_of X G a_l_many, F_l_stands := F_l_stands, b_l_stands := b_l_stands, m_l_stands := PySem.W.mg_of X G a_l_stands, F_l_more := F_l_more, b_l_more := b_l_more, m_l_more := PySem.W.mg_of X G a_l_more, F_l_standing := F_l_standing, b_l_standing := b_l_standing, m_l_standing := PySem.W.mg_of X G a_l_standing, F_l_towards := F_l_towards, b_l_towards := b_l_towards, m_l_towards := PySem.W.mg_of X G a_l_towards, F_l_heaviest := F_l_heaviest, b_l_heaviest := b_l_heaviest, m_l_heaviest := PySem.W.mg_of X G a_l_heaviest, F_l_right := F_l_right, b_l_right := b_l_right, m_l_right := PySem.W.mg_of X G a_l_right, F_law := F_law, b_law := b_law, m_law := PySem.W.mg_of X G a_law, ic_Country := ⟨cl_Country, ha_Country, hn, htk, hm_Country, by unfold PySem.W.kitOne; rw [if_pos (by simp)]⟩, cl_Country := cl_Country, mk_Country := ⟨mk_Country, a_Country_init, i_Country_init, kc_Country⟩, m_Country := PySem.W.mg_of X G aC_Country, ne_Country := ne_Country, na_Country_lanes := na_Country_lanes, na_Country_around := na_Country_around, na_Country_ahead := na_Country_ahead, na_Country_yards := na_Country_yards, na_Country_gates := na_Country_gates, ic_Web := ⟨cl_Web, ha_Web, hn, htk, hm_Web, by unfold PySem.W.kitOne; rw [if_pos (by simp)]⟩, cl_Web := cl_Web, mk_Web := ⟨mk_Web, a_Web_init, i_Web_init, kc_Web⟩, m_Web := PySem.W.mg_of X G aC_Web, ne_Web := ne_Web, na_Web_country := na_Web_country, na_Web_books := na_Web_books, g_MOST_LANES_AT_A_PLACE := ⟨_, PySem.W.mg_of X G z_MOST_LANES_AT_A_PLACE⟩, g_MOST_YARDS := ⟨_, PySem.W.mg_of X G z_MOST_YARDS⟩, g_MOST_PLACES := ⟨_, PySem.W.mg_of X G z_MOST_PLACES⟩, g_MOST_OF_A_BOUND := ⟨_, PySem.W.mg_of X G z_MOST_OF_A_BOUND⟩, g_MOST_BOUNDS := ⟨_, PySem.W.mg_of X G z_MOST_BOUNDS⟩, g_MOST_ALTERNATIVES := ⟨_, PySem.W.mg_of X G z_MOST_ALTERNATIVES⟩, g_MOST_LOADS := ⟨_, PySem.W.mg_of X G z_MOST_LOADS⟩, n_abs := PySem.W.mg_none_of X G z_abs, n_all := PySem.W.mg_none_of X G z_all, n_any := PySem.W.mg_none_of X G z_any, n_bool := PySem.W.mg_none_of X G z_bool, n_divmod := PySem.W.mg_none_of X G z_divmod, n_int := PySem.W.mg_none_of X G z_int, n_isinstance := PySem.W.mg_none_of X G z_isinstance, n_len := PySem.W.mg_none_of X G z_len, n_list := PySem.W.mg_none_of X G z_list, n_max := PySem.W.mg_none_of X G z_max, n_min := PySem.W.mg_none_of X G z_min, n_range := PySem.W.mg_none_of X G z_range, n_repr := PySem.W.mg_none_of X G z_repr, n_sorted := PySem.W.mg_none_of X G z_sorted, n_sum := PySem.W.mg_none_of X G z_sum, n_tuple := PySem.W.mg_none_of X G z_tuple, n_zip := PySem.W.mg_none_of X G z_zip }
  exact ⟨_, fun s v => .of_eq rfl, fun base => ok_law T⟩
end K26
set_option Elab.async false
open PySem PySem.W PyProof.Rows
set_option maxRecDepth 100000 in
set_option maxHeartbeats 0 in
theorem PySem.Challenge.cw_lanekeepers_k26_whole_loads_towards_holds : PySem.Challenge.rw_lanekeepers_k26_whole_loads_towards.Holds := by
  w_on; o_law; k_head; (case hw => w_witness2)
  k_fill
  refine G8.walk_G (l := PySem.Challenge.rw_lanekeepers_k26_whole_loads_towards) (n := 63) (k := 11) (x := "_law_script") (sp := Pr.spLaw) rfl (by decide) rfl ⟨rfl, by decide, by decide⟩ (fun w h Y => PySem.W.kIn_of Y) ?F (fun _ _ a ns hS => ⟨a, ns, rfl, hS, fun _ => rfl⟩)
  case F =>
    intro w mg fa h KX G hmg
    refine' K26.all_mk KX G hmg ?aC_Country ?aC_Web ?a_is_count ?l_is_count ?c_is_count ?k_is_count ?a_is_row ?l_is_row ?c_is_row ?k_is_row ?a_Country_init ?i_Country_init ?l_Country_init ?c_Country_init ?k_Country_init ?a_Country_lanes ?g_Country_lanes ?t_Country_lanes ?r_Country_lanes ?l_Country_lanes ?c_Country_lanes ?k_Country_lanes ?a_Country_yards ?g_Country_yards ?t_Country_yards ?r_Country_yards ?l_Country_yards ?c_Country_yards ?k_Country_yards ?a_Country_gates ?g_Country_gates ?t_Country_gates ?r_Country_gates ?l_Country_gates ?c_Country_gates ?k_Country_gates ?a_Country_neighbours ?i_Country_neighbours ?l_Country_neighbours ?c_Country_neighbours ?k_Country_neighbours ?a_Country_ahead ?i_Country_ahead ?l_Country_ahead ?c_Country_ahead ?k_Country_ahead ?a_Country_eq ?i_Country_eq ?l_Country_eq ?c_Country_eq ?k_Country_eq ?a_is_place ?l_is_place ?c_is_place ?k_is_place ?a_is_yard ?l_is_yard ?c_is_yard ?k_is_yard ?a_is_neighbour ?l_is_neighbour ?c_is_neighbour ?k_is_neighbour ?a_are_lanes ?l_are_lanes ?c_are_lanes ?k_are_lanes ?a_is_pair_up_to ?l_is_pair_up_to ?c_is_pair_up_to ?k_is_pair_up_to ?a_neighbours_by_place ?l_neighbours_by_place ?c_neighbours_by_place ?k_neighbours_by_place ?a_yards_among ?l_yards_among ?c_yards_among ?k_yards_among ?a_places_ahead ?l_places_ahead ?c_places_ahead ?k_places_ahead ?a_is_among ?l_is_among ?c_is_among ?k_is_among ?a_is_pair_of ?l_is_pair_of ?c_is_pair_of ?k_is_pair_of ?a_pairs_of ?l_pairs_of ?c_pairs_of ?k_pairs_of ?a_is_bound ?l_is_bound ?c_is_bound ?k_is_bound ?a_is_alternative ?l_is_alternative ?c_is_alternative ?k_is_alternative ?a_is_book_of ?l_is_book_of ?c_is_book_of ?k_is_book_of ?a_is_load_of ?l_is_load_of ?c_is_load_of ?k_is_load_of ?a_is_entry ?l_is_entry ?c_is_entry ?k_is_entry ?a_carts_of ?l_carts_of ?c_carts_of ?k_carts_of ?a_keeps ?l_keeps ?c_keeps ?k_keeps ?a_stands_by ?l_stands_by ?c_stands_by ?k_stands_by ?a_stands_in ?l_stands_in ?c_stands_in ?k_stands_in ?a_copied_book ?l_copied_book ?c_copied_book ?k_copied_book ?a_added ?l_added ?c_added ?k_added ?a_is_within ?l_is_within ?c_is_within ?k_is_within ?a_check_country ?l_check_country ?c_check_country ?k_check_country ?a_check_yard ?l_check_yard ?c_check_yard ?k_check_yard ?a_check_country_and_yard ?l_check_country_and_yard ?c_check_country_and_yard ?k_check_country_and_yard ?a_check_target ?l_check_target ?c_check_target ?k_check_target ?a_check_book ?l_check_book ?c_check_book ?k_check_book ?a_check_load ?l_check_load ?c_check_load ?k_check_load ?a_Web_init ?i_Web_init ?l_Web_init ?c_Web_init ?k_Web_init ?a_Web_country ?g_Web_country ?t_Web_country ?r_Web_country ?l_Web_country ?c_Web_country ?k_Web_country ?a_Web_books ?g_Web_books ?t_Web_books ?r_Web_books ?l_Web_books ?c_Web_books ?k_Web_books ?a_Web_book ?i_Web_book ?l_Web_book ?c_Web_book ?k_Web_book ?a_Web_eq ?i_Web_eq ?l_Web_eq ?c_Web_eq ?k_Web_eq ?a_check_web ?l_check_web ?c_check_web ?k_check_web ?a_is_at_most ?l_is_at_most ?c_is_at_most ?k_is_at_most ?a_lets ?l_lets ?c_lets ?k_lets ?a_loads_towards ?l_loads_towards ?c_loads_towards ?k_loads_towards ?a_heaviest ?l_heaviest ?c_heaviest ?k_heaviest ?a_pairs_towards ?l_pairs_towards ?c_pairs_towards ?k_pairs_towards ?a_standing_towards ?l_standing_towards ?c_standing_towards ?k_standing_towards ?a_standing_loads ?l_standing_loads ?c_standing_loads ?k_standing_loads ?a_with_pair ?l_with_pair ?c_with_pair ?k_with_pair ?a_is_greatest ?l_is_greatest ?c_is_greatest ?k_is_greatest ?a_l_pot ?l_l_pot ?c_l_pot ?k_l_pot ?a_l_draw ?l_l_draw ?c_l_draw ?k_l_draw ?a_l_pick ?l_l_pick ?c_l_pick ?k_l_pick ?a_l_mixed ?l_l_mixed ?c_l_mixed ?k_l_mixed ?a_l_lanes ?l_l_lanes ?c_l_lanes ?k_l_lanes ?a_l_renumbered ?l_l_renumbered ?c_l_renumbered ?k_l_renumbered ?a_l_beside ?l_l_beside ?c_l_beside ?k_l_beside ?a_l_yards ?l_l_yards ?c_l_yards ?k_l_yards ?a_l_pairs ?l_l_pairs ?c_l_pairs ?k_l_pairs ?a_l_book ?l_l_book ?c_l_book ?k_l_book ?a_l_many ?l_l_many ?c_l_many ?k_l_many ?a_l_stands ?l_l_stands ?c_l_stands ?k_l_stands ?a_l_more ?l_l_more ?c_l_more ?k_l_more ?a_l_standing ?l_l_standing ?c_l_standing ?k_l_standing ?a_l_towards ?l_l_towards ?c_l_towards ?k_l_towards ?a_l_heaviest ?l_l_heaviest ?c_l_heaviest ?k_l_heaviest ?a_l_right ?l_l_right ?c_l_right ?k_l_right ?a_law ?l_law ?c_law ?k_law ?pg_Country ?hd_Country ?po_Country ?sa_Country ?mk_Country ?kc_Country ?ha_Country ?hm_Country ?ne_Country ?na_Country_lanes ?na_Country_around ?na_Country_ahead ?na_Country_yards ?na_Country_gates ?pg_Web ?hd_Web ?po_Web ?sa_Web ?mk_Web ?kc_Web ?ha_Web ?hm_Web ?ne_Web ?na_Web_country ?na_Web_books ?hn ?htk ?z_MOST_LANES_AT_A_PLACE ?z_MOST_YARDS ?z_MOST_PLACES ?z_MOST_OF_A_BOUND ?z_MOST_BOUNDS ?z_MOST_ALTERNATIVES ?z_MOST_LOADS ?z_abs ?z_all ?z_any ?z_bool ?z_divmod ?z_int ?z_isinstance ?z_len ?z_list ?z_max ?z_min ?z_range ?z_repr ?z_sorted ?z_sum ?z_tuple ?z_zip
    (case aC_Country => k_is)
    (case aC_Web => k_is)
    (case a_is_count => k_is)
    (case l_is_count => k_is)
    (case c_is_count => k_is)
    (case k_is_count => k_is)
    (case a_is_row => k_is)
    (case l_is_row => k_is)
    (case c_is_row => k_is)
    (case k_is_row => k_is)
    (case a_Country_init => k_is)
    (case i_Country_init => k_is)
    (case l_Country_init => k_is)
    (case c_Country_init => k_is)
    (case k_Country_init => k_is)
    (case a_Country_lanes => k_is)
    (case g_Country_lanes => k_is)
    (case t_Country_lanes => k_is)
    (case r_Country_lanes => k_is)
    (case l_Country_lanes => k_is)
    (case c_Country_lanes => k_is)
    (case k_Country_lanes => k_is)
    (case a_Country_yards => k_is)
    (case g_Country_yards => k_is)
    (case t_Country_yards => k_is)
    (case r_Country_yards => k_is)
    (case l_Country_yards => k_is)
    (case c_Country_yards => k_is)
    (case k_Country_yards => k_is)
    (case a_Country_gates => k_is)
    (case g_Country_gates => k_is)
    (case t_Country_gates => k_is)
    (case r_Country_gates => k_is)
    (case l_Country_gates => k_is)
    (case c_Country_gates => k_is)
    (case k_Country_gates => k_is)
    (case a_Country_neighbours => k_is)
    (case i_Country_neighbours => k_is)
    (case l_Country_neighbours => k_is)
    (case c_Country_neighbours => k_is)
    (case k_Country_neighbours => k_is)
    (case a_Country_ahead => k_is)
    (case i_Country_ahead => k_is)
    (case l_Country_ahead => k_is)
    (case c_Country_ahead => k_is)
    (case k_Country_ahead => k_is)
    (case a_Country_eq => k_is)
    (case i_Country_eq => k_is)
    (case l_Country_eq => k_is)
    (case c_Country_eq => k_is)
    (case k_Country_eq => k_is)
    (case a_is_place => k_is)
    (case l_is_place => k_is)
    (case c_is_place => k_is)
    (case k_is_place => k_is)
    (case a_is_yard => k_is)
    (case l_is_yard => k_is)
    (case c_is_yard => k_is)
    (case k_is_yard => k_is)
    (case a_is_neighbour => k_is)
    (case l_is_neighbour => k_is)
    (case c_is_neighbour => k_is)
    (case k_is_neighbour => k_is)
    (case a_are_lanes => k_is)
    (case l_are_lanes => k_is)
    (case c_are_lanes => k_is)
    (case k_are_lanes => k_is)
    (case a_is_pair_up_to => k_is)
    (case l_is_pair_up_to => k_is)
    (case c_is_pair_up_to => k_is)
    (case k_is_pair_up_to => k_is)
    (case a_neighbours_by_place => k_is)
    (case l_neighbours_by_place => k_is)
    (case c_neighbours_by_place => k_is)
    (case k_neighbours_by_place => k_is)
    (case a_yards_among => k_is)
    (case l_yards_among => k_is)
    (case c_yards_among => k_is)
    (case k_yards_among => k_is)
    (case a_places_ahead => k_is)
    (case l_places_ahead => k_is)
    (case c_places_ahead => k_is)
    (case k_places_ahead => k_is)
    (case a_is_among => k_is)
    (case l_is_among => k_is)
    (case c_is_among => k_is)
    (case k_is_among => k_is)
    (case a_is_pair_of => k_is)
    (case l_is_pair_of => k_is)
    (case c_is_pair_of => k_is)
    (case k_is_pair_of => k_is)
    (case a_pairs_of => k_is)
    (case l_pairs_of => k_is)
    (case c_pairs_of => k_is)
    (case k_pairs_of => k_is)
    (case a_is_bound => k_is)
    (case l_is_bound => k_is)
    (case c_is_bound => k_is)
    (case k_is_bound => k_is)
    (case a_is_alternative => k_is)
    (case l_is_alternative => k_is)
    (case c_is_alternative => k_is)
    (case k_is_alternative => k_is)
    (case a_is_book_of => k_is)
    (case l_is_book_of => k_is)
    (case c_is_book_of => k_is)
    (case k_is_book_of => k_is)
    (case a_is_load_of => k_is)
    (case l_is_load_of => k_is)
    (case c_is_load_of => k_is)
    (case k_is_load_of => k_is)
    (case a_is_entry => k_is)
    (case l_is_entry => k_is)
    (case c_is_entry => k_is)
    (case k_is_entry => k_is)
    (case a_carts_of => k_is)
    (case l_carts_of => k_is)
    (case c_carts_of => k_is)
    (case k_carts_of => k_is)
    (case a_keeps => k_is)
    (case l_keeps => k_is)
    (case c_keeps => k_is)
    (case k_keeps => k_is)
    (case a_stands_by => k_is)
    (case l_stands_by => k_is)
    (case c_stands_by => k_is)
    (case k_stands_by => k_is)
    (case a_stands_in => k_is)
    (case l_stands_in => k_is)
    (case c_stands_in => k_is)
    (case k_stands_in => k_is)
    (case a_copied_book => k_is)
    (case l_copied_book => k_is)
    (case c_copied_book => k_is)
    (case k_copied_book => k_is)
    (case a_added => k_is)
    (case l_added => k_is)
    (case c_added => k_is)
    (case k_added => k_is)
    (case a_is_within => k_is)
    (case l_is_within => k_is)
    (case c_is_within => k_is)
    (case k_is_within => k_is)
    (case a_check_country => k_is)
    (case l_check_country => k_is)
    (case c_check_country => k_is)
    (case k_check_country => k_is)
    (case a_check_yard => k_is)
    (case l_check_yard => k_is)
    (case c_check_yard => k_is)
    (case k_check_yard => k_is)
    (case a_check_country_and_yard => k_is)
    (case l_check_country_and_yard => k_is)
    (case c_check_country_and_yard => k_is)
    (case k_check_country_and_yard => k_is)
    (case a_check_target => k_is)
    (case l_check_target => k_is)
    (case c_check_target => k_is)
    (case k_check_target => k_is)
    (case a_check_book => k_is)
    (case l_check_book => k_is)
    (case c_check_book => k_is)
    (case k_check_book => k_is)
    (case a_check_load => k_is)
    (case l_check_load => k_is)
    (case c_check_load => k_is)
    (case k_check_load => k_is)
    (case a_Web_init => k_is)
    (case i_Web_init => k_is)
    (case l_Web_init => k_is)
    (case c_Web_init => k_is)
    (case k_Web_init => k_is)
    (case a_Web_country => k_is)
    (case g_Web_country => k_is)
    (case t_Web_country => k_is)
    (case r_Web_country => k_is)
    (case l_Web_country => k_is)
    (case c_Web_country => k_is)
    (case k_Web_country => k_is)
    (case a_Web_books => k_is)
    (case g_Web_books => k_is)
    (case t_Web_books => k_is)
    (case r_Web_books => k_is)
    (case l_Web_books => k_is)
    (case c_Web_books => k_is)
    (case k_Web_books => k_is)
    (case a_Web_book => k_is)
    (case i_Web_book => k_is)
    (case l_Web_book => k_is)
    (case c_Web_book => k_is)
    (case k_Web_book => k_is)
    (case a_Web_eq => k_is)
    (case i_Web_eq => k_is)
    (case l_Web_eq => k_is)
    (case c_Web_eq => k_is)
    (case k_Web_eq => k_is)
    (case a_check_web => k_is)
    (case l_check_web => k_is)
    (case c_check_web => k_is)
    (case k_check_web => k_is)
    (case a_is_at_most => k_is)
    (case l_is_at_most => k_is)
    (case c_is_at_most => k_is)
    (case k_is_at_most => k_is)
    (case a_lets => k_is)
    (case l_lets => k_is)
    (case c_lets => k_is)
    (case k_lets => k_is)
    (case a_loads_towards => k_is)
    (case l_loads_towards => k_is)
    (case c_loads_towards => k_is)
    (case k_loads_towards => k_is)
    (case a_heaviest => k_is)
    (case l_heaviest => k_is)
    (case c_heaviest => k_is)
    (case k_heaviest => k_is)
    (case a_pairs_towards => k_is)
    (case l_pairs_towards => k_is)
    (case c_pairs_towards => k_is)
    (case k_pairs_towards => k_is)
    (case a_standing_towards => k_is)
    (case l_standing_towards => k_is)
    (case c_standing_towards => k_is)
    (case k_standing_towards => k_is)
    (case a_standing_loads => k_is)
    (case l_standing_loads => k_is)
    (case c_standing_loads => k_is)
    (case k_standing_loads => k_is)
    (case a_with_pair => k_is)
    (case l_with_pair => k_is)
    (case c_with_pair => k_is)
    (case k_with_pair => k_is)
    (case a_is_greatest => k_is)
    (case l_is_greatest => k_is)
    (case c_is_greatest => k_is)
    (case k_is_greatest => k_is)
    (case a_l_pot => k_is)
    (case l_l_pot => k_is)
    (case c_l_pot => k_is)
    (case k_l_pot => k_is)
    (case a_l_draw => k_is)
    (case l_l_draw => k_is)
    (case c_l_draw => k_is)
    (case k_l_draw => k_is)
    (case a_l_pick => k_is)
    (case l_l_pick => k_is)
    (case c_l_pick => k_is)
    (case k_l_pick => k_is)
    (case a_l_mixed => k_is)
    (case l_l_mixed => k_is)
    (case c_l_mixed => k_is)
    (case k_l_mixed => k_is)
    (case a_l_lanes => k_is)
    (case l_l_lanes => k_is)
    (case c_l_lanes => k_is)
    (case k_l_lanes => k_is)
    (case a_l_renumbered => k_is)
    (case l_l_renumbered => k_is)
    (case c_l_renumbered => k_is)
    (case k_l_renumbered => k_is)
    (case a_l_beside => k_is)
    (case l_l_beside => k_is)
    (case c_l_beside => k_is)
    (case k_l_beside => k_is)
    (case a_l_yards => k_is)
    (case l_l_yards => k_is)
    (case c_l_yards => k_is)
    (case k_l_yards => k_is)
    (case a_l_pairs => k_is)
    (case l_l_pairs => k_is)
    (case c_l_pairs => k_is)
    (case k_l_pairs => k_is)
    (case a_l_book => k_is)
    (case l_l_book => k_is)
    (case c_l_book => k_is)
    (case k_l_book => k_is)
    (case a_l_many => k_is)
    (case l_l_many => k_is)
    (case c_l_many => k_is)
    (case k_l_many => k_is)
    (case a_l_stands => k_is)
    (case l_l_stands => k_is)
    (case c_l_stands => k_is)
    (case k_l_stands => k_is)
    (case a_l_more => k_is)
    (case l_l_more => k_is)
    (case c_l_more => k_is)
    (case k_l_more => k_is)
    (case a_l_standing => k_is)
    (case l_l_standing => k_is)
    (case c_l_standing => k_is)
    (case k_l_standing => k_is)
    (case a_l_towards => k_is)
    (case l_l_towards => k_is)
    (case c_l_towards => k_is)
    (case k_l_towards => k_is)
    (case a_l_heaviest => k_is)
    (case l_l_heaviest => k_is)
    (case c_l_heaviest => k_is)
    (case k_l_heaviest => k_is)
    (case a_l_right => k_is)
    (case l_l_right => k_is)
    (case c_l_right => k_is)
    (case k_l_right => k_is)
    (case a_law => k_is)
    (case l_law => k_is)
    (case c_law => k_is)
    (case k_law => k_is)
    (case pg_Country => k_is)
    (case hd_Country => k_is)
    (case po_Country => k_is)
    (case sa_Country => k_is)
    (case mk_Country => k_is)
    (case kc_Country => k_is)
    (case ha_Country => k_is)
    (case hm_Country => k_is)
    (case ne_Country => k_is)
    (case na_Country_lanes => k_is)
    (case na_Country_around => k_is)
    (case na_Country_ahead => k_is)
    (case na_Country_yards => k_is)
    (case na_Country_gates => k_is)
    (case pg_Web => k_is)
    (case hd_Web => k_is)
    (case po_Web => k_is)
    (case sa_Web => k_is)
    (case mk_Web => k_is)
    (case kc_Web => k_is)
    (case ha_Web => k_is)
    (case hm_Web => k_is)
    (case ne_Web => k_is)
    (case na_Web_country => k_is)
    (case na_Web_books => k_is)
    (case hn => k_is)
    (case htk => k_is)
    (case z_MOST_LANES_AT_A_PLACE => k_is)
    (case z_MOST_YARDS => k_is)
    (case z_MOST_PLACES => k_is)
    (case z_MOST_OF_A_BOUND => k_is)
    (case z_MOST_BOUNDS => k_is)
    (case z_MOST_ALTERNATIVES => k_is)
    (case z_MOST_LOADS => k_is)
    (case z_abs => k_is)
    (case z_all => k_is)
    (case z_any => k_is)
    (case z_bool => k_is)
    (case z_divmod => k_is)
    (case z_int => k_is)
    (case z_isinstance => k_is)
    (case z_len => k_is)
    (case z_list => k_is)
    (case z_max => k_is)
    (case z_min => k_is)
    (case z_range => k_is)
    (case z_repr => k_is)
    (case z_sorted => k_is)
    (case z_sum => k_is)
    (case z_tuple => k_is)
    (case z_zip => k_is)
