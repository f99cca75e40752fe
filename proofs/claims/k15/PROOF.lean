import PyProof.Rows.All
import Wide.All
import OpenK.AllK
import Wide.FinOn
import HandS.ForMost
import HandS.DictComp
import HandS.Property
import HandS.SortRule
import HandS.SortInts
import HandS.NoneIn
import HandS.Wide
import HandS.WideBits
import HandS.Deep
import HandS.Style
import HandS.Conv
import HandS.IsInst
import HandS.Evl
import HandS.Codes
import HandS.Walk
import HandS.List
import HandS.Defaults
import PyProof.ReprRoads
import PyProof.ReprLen
import HandS.OwnEq
import HandS.More
import PyProof.InstNe
import HandS.Ends
import HandS.EndBits
import PySem.Challenge.RW_lanekeepers_k15_whole_renamed_countries
set_option Elab.async false
set_option linter.all false
set_option maxRecDepth 100000
set_option maxHeartbeats 4000000
namespace K15
open PySem PySem.Spec PyProof.Rows L2
def topS (i : Nat) : Stmt := PySem.Challenge.pw_lanekeepers_k15_whole_renamed_countries.main.body.getD i (.Pass ⟨0, 0, 0, 0⟩)
abbrev s_is_count : Stmt := topS 12
abbrev n_is_count : List Str := ["value"]
theorem sc_is_count : FnScope n_is_count ["value"] (defScope s_is_count) := ⟨rfl, rfl, rfl, by decide +kernel, rfl, by decide +kernel, by decide +kernel⟩
abbrev s_is_row : Stmt := topS 13
abbrev n_is_row : List Str := ["value"]
theorem sc_is_row : FnScope n_is_row ["value"] (defScope s_is_row) := ⟨rfl, rfl, rfl, by decide +kernel, rfl, by decide +kernel, by decide +kernel⟩
abbrev s_Country_init : Stmt := inClass (topS 17) 0
abbrev n_Country_init : List Str := ["self", "lanes", "pair", "goal", "place"]
theorem sc_Country_init : FnScope n_Country_init ["self", "lanes"] (defScope s_Country_init) := ⟨rfl, rfl, rfl, by decide +kernel, rfl, by decide +kernel, by decide +kernel⟩
abbrev s_Country_lanes : Stmt := inClass (topS 17) 1
abbrev n_Country_lanes : List Str := ["self"]
theorem sc_Country_lanes : FnScope n_Country_lanes ["self"] (defScope s_Country_lanes) := ⟨rfl, rfl, rfl, by decide +kernel, rfl, by decide +kernel, by decide +kernel⟩
abbrev s_Country_yards : Stmt := inClass (topS 17) 2
abbrev n_Country_yards : List Str := ["self"]
theorem sc_Country_yards : FnScope n_Country_yards ["self"] (defScope s_Country_yards) := ⟨rfl, rfl, rfl, by decide +kernel, rfl, by decide +kernel, by decide +kernel⟩
abbrev s_Country_gates : Stmt := inClass (topS 17) 3
abbrev n_Country_gates : List Str := ["self"]
theorem sc_Country_gates : FnScope n_Country_gates ["self"] (defScope s_Country_gates) := ⟨rfl, rfl, rfl, by decide +kernel, rfl, by decide +kernel, by decide +kernel⟩
abbrev s_Country_neighbours : Stmt := inClass (topS 17) 4
abbrev n_Country_neighbours : List Str := ["self", "place"]
theorem sc_Country_neighbours : FnScope n_Country_neighbours ["self", "place"] (defScope s_Country_neighbours) := ⟨rfl, rfl, rfl, by decide +kernel, rfl, by decide +kernel, by decide +kernel⟩
abbrev s_Country_ahead : Stmt := inClass (topS 17) 5
abbrev n_Country_ahead : List Str := ["self", "place", "goal"]
theorem sc_Country_ahead : FnScope n_Country_ahead ["self", "place", "goal"] (defScope s_Country_ahead) := ⟨rfl, rfl, rfl, by decide +kernel, rfl, by decide +kernel, by decide +kernel⟩
abbrev s_Country_eq : Stmt := inClass (topS 17) 6
abbrev n_Country_eq : List Str := ["self", "other"]
theorem sc_Country_eq : FnScope n_Country_eq ["self", "other"] (defScope s_Country_eq) := ⟨rfl, rfl, rfl, by decide +kernel, rfl, by decide +kernel, by decide +kernel⟩
abbrev s_is_place : Stmt := topS 18
abbrev n_is_place : List Str := ["country", "value"]
theorem sc_is_place : FnScope n_is_place ["country", "value"] (defScope s_is_place) := ⟨rfl, rfl, rfl, by decide +kernel, rfl, by decide +kernel, by decide +kernel⟩
abbrev s_is_yard : Stmt := topS 19
abbrev n_is_yard : List Str := ["country", "value"]
theorem sc_is_yard : FnScope n_is_yard ["country", "value"] (defScope s_is_yard) := ⟨rfl, rfl, rfl, by decide +kernel, rfl, by decide +kernel, by decide +kernel⟩
abbrev s_is_neighbour : Stmt := topS 20
abbrev n_is_neighbour : List Str := ["country", "place", "value"]
theorem sc_is_neighbour : FnScope n_is_neighbour ["country", "place", "value"] (defScope s_is_neighbour) := ⟨rfl, rfl, rfl, by decide +kernel, rfl, by decide +kernel, by decide +kernel⟩
abbrev s_are_lanes : Stmt := topS 21
abbrev n_are_lanes : List Str := ["value", "around", "pair", "place"]
theorem sc_are_lanes : FnScope n_are_lanes ["value"] (defScope s_are_lanes) := ⟨rfl, rfl, rfl, by decide +kernel, rfl, by decide +kernel, by decide +kernel⟩
abbrev s_is_pair_up_to : Stmt := topS 22
abbrev n_is_pair_up_to : List Str := ["value", "last", "place"]
theorem sc_is_pair_up_to : FnScope n_is_pair_up_to ["value", "last"] (defScope s_is_pair_up_to) := ⟨rfl, rfl, rfl, by decide +kernel, rfl, by decide +kernel, by decide +kernel⟩
abbrev s_neighbours_by_place : Stmt := topS 23
abbrev n_neighbours_by_place : List Str := ["lanes", "around", "one", "other", "place"]
theorem sc_neighbours_by_place : FnScope n_neighbours_by_place ["lanes"] (defScope s_neighbours_by_place) := ⟨rfl, rfl, rfl, by decide +kernel, rfl, by decide +kernel, by decide +kernel⟩
abbrev s_yards_among : Stmt := topS 24
abbrev n_yards_among : List Str := ["around", "place"]
theorem sc_yards_among : FnScope n_yards_among ["around"] (defScope s_yards_among) := ⟨rfl, rfl, rfl, by decide +kernel, rfl, by decide +kernel, by decide +kernel⟩
abbrev s_places_ahead : Stmt := topS 25
abbrev n_places_ahead : List Str := ["around", "goal", "ahead", "waiting", "here", "near"]
theorem sc_places_ahead : FnScope n_places_ahead ["around", "goal"] (defScope s_places_ahead) := ⟨rfl, rfl, rfl, by decide +kernel, rfl, by decide +kernel, by decide +kernel⟩
abbrev s_check_country : Stmt := topS 27
abbrev n_check_country : List Str := ["country"]
theorem sc_check_country : FnScope n_check_country ["country"] (defScope s_check_country) := ⟨rfl, rfl, rfl, by decide +kernel, rfl, by decide +kernel, by decide +kernel⟩
abbrev s_check_place : Stmt := topS 28
abbrev n_check_place : List Str := ["country", "place"]
theorem sc_check_place : FnScope n_check_place ["country", "place"] (defScope s_check_place) := ⟨rfl, rfl, rfl, by decide +kernel, rfl, by decide +kernel, by decide +kernel⟩
abbrev s_check_yard : Stmt := topS 29
abbrev n_check_yard : List Str := ["country", "yard"]
theorem sc_check_yard : FnScope n_check_yard ["country", "yard"] (defScope s_check_yard) := ⟨rfl, rfl, rfl, by decide +kernel, rfl, by decide +kernel, by decide +kernel⟩
abbrev s_check_country_and_yard : Stmt := topS 30
abbrev n_check_country_and_yard : List Str := ["country", "yard"]
theorem sc_check_country_and_yard : FnScope n_check_country_and_yard ["country", "yard"] (defScope s_check_country_and_yard) := ⟨rfl, rfl, rfl, by decide +kernel, rfl, by decide +kernel, by decide +kernel⟩
abbrev s_check_target : Stmt := topS 31
abbrev n_check_target : List Str := ["country", "yard", "target"]
theorem sc_check_target : FnScope n_check_target ["country", "yard", "target"] (defScope s_check_target) := ⟨rfl, rfl, rfl, by decide +kernel, rfl, by decide +kernel, by decide +kernel⟩
abbrev s_way : Stmt := topS 33
abbrev n_way : List Str := ["country", "start", "end"]
theorem sc_way : FnScope n_way ["country", "start", "end"] (defScope s_way) := ⟨rfl, rfl, rfl, by decide +kernel, rfl, by decide +kernel, by decide +kernel⟩
abbrev s_distance : Stmt := topS 34
abbrev n_distance : List Str := ["country", "place", "goal"]
theorem sc_distance : FnScope n_distance ["country", "place", "goal"] (defScope s_distance) := ⟨rfl, rfl, rfl, by decide +kernel, rfl, by decide +kernel, by decide +kernel⟩
abbrev s_next_place : Stmt := topS 35
abbrev n_next_place : List Str := ["country", "place", "goal"]
theorem sc_next_place : FnScope n_next_place ["country", "place", "goal"] (defScope s_next_place) := ⟨rfl, rfl, rfl, by decide +kernel, rfl, by decide +kernel, by decide +kernel⟩
abbrev s_behind : Stmt := topS 36
abbrev n_behind : List Str := ["country", "yard", "target"]
theorem sc_behind : FnScope n_behind ["country", "yard", "target"] (defScope s_behind) := ⟨rfl, rfl, rfl, by decide +kernel, rfl, by decide +kernel, by decide +kernel⟩
abbrev s_renamed : Stmt := topS 37
abbrev n_renamed : List Str := ["country", "places", "one", "other"]
theorem sc_renamed : FnScope n_renamed ["country", "places"] (defScope s_renamed) := ⟨rfl, rfl, rfl, by decide +kernel, rfl, by decide +kernel, by decide +kernel⟩
abbrev s_are_new_numbers : Stmt := topS 38
abbrev n_are_new_numbers : List Str := ["country", "value", "place"]
theorem sc_are_new_numbers : FnScope n_are_new_numbers ["country", "value"] (defScope s_are_new_numbers) := ⟨rfl, rfl, rfl, by decide +kernel, rfl, by decide +kernel, by decide +kernel⟩
abbrev s_places_along : Stmt := topS 39
abbrev n_places_along : List Str := ["country", "start", "end", "places"]
theorem sc_places_along : FnScope n_places_along ["country", "start", "end"] (defScope s_places_along) := ⟨rfl, rfl, rfl, by decide +kernel, rfl, by decide +kernel, by decide +kernel⟩
abbrev s_yards_behind : Stmt := topS 40
abbrev n_yards_behind : List Str := ["country", "yard", "target", "other"]
theorem sc_yards_behind : FnScope n_yards_behind ["country", "yard", "target"] (defScope s_yards_behind) := ⟨rfl, rfl, rfl, by decide +kernel, rfl, by decide +kernel, by decide +kernel⟩
abbrev s_lanes_along : Stmt := topS 41
abbrev n_lanes_along : List Str := ["country", "place", "goal"]
theorem sc_lanes_along : FnScope n_lanes_along ["country", "place", "goal"] (defScope s_lanes_along) := ⟨rfl, rfl, rfl, by decide +kernel, rfl, by decide +kernel, by decide +kernel⟩
abbrev s_l_pot : Stmt := topS 43
abbrev n_l_pot : List Str := ["_law_script", "_law_k", "_law_cell", "_law_low"]
theorem sc_l_pot : FnScope n_l_pot ["_law_script", "_law_k"] (defScope s_l_pot) := ⟨rfl, rfl, rfl, by decide +kernel, rfl, by decide +kernel, by decide +kernel⟩
abbrev s_l_draw : Stmt := topS 44
abbrev n_l_draw : List Str := ["_law_pot_here", "_law_many", "_law_digit"]
theorem sc_l_draw : FnScope n_l_draw ["_law_pot_here", "_law_many"] (defScope s_l_draw) := ⟨rfl, rfl, rfl, by decide +kernel, rfl, by decide +kernel, by decide +kernel⟩
abbrev s_l_pick : Stmt := topS 45
abbrev n_l_pick : List Str := ["_law_pot_here", "_law_some"]
theorem sc_l_pick : FnScope n_l_pick ["_law_pot_here", "_law_some"] (defScope s_l_pick) := ⟨rfl, rfl, rfl, by decide +kernel, rfl, by decide +kernel, by decide +kernel⟩
abbrev s_l_drawn : Stmt := topS 46
abbrev n_l_drawn : List Str := ["_law_pot_here", "_law_most", "_law_ties", "_law_lanes", "_law_yard", "_law_some", "_law_other", "_law_many", "_law_place", "_law_lacking", "_law_turn", "_law_left", "_law_places", "_law_at", "_law_one"]
theorem sc_l_drawn : FnScope n_l_drawn ["_law_pot_here", "_law_most"] (defScope s_l_drawn) := ⟨rfl, rfl, rfl, by decide +kernel, rfl, by decide +kernel, by decide +kernel⟩
abbrev s_l_beside : Stmt := topS 47
abbrev n_l_beside : List Str := ["_law_lanes", "_law_place", "_law_found", "_law_one", "_law_other"]
theorem sc_l_beside : FnScope n_l_beside ["_law_lanes", "_law_place"] (defScope s_l_beside) := ⟨rfl, rfl, rfl, by decide +kernel, rfl, by decide +kernel, by decide +kernel⟩
abbrev s_l_yards : Stmt := topS 48
abbrev n_l_yards : List Str := ["_law_lanes", "_law_place"]
theorem sc_l_yards : FnScope n_l_yards ["_law_lanes"] (defScope s_l_yards) := ⟨rfl, rfl, rfl, by decide +kernel, rfl, by decide +kernel, by decide +kernel⟩
abbrev s_l_gates : Stmt := topS 49
abbrev n_l_gates : List Str := ["_law_lanes", "_law_place"]
theorem sc_l_gates : FnScope n_l_gates ["_law_lanes"] (defScope s_l_gates) := ⟨rfl, rfl, rfl, by decide +kernel, rfl, by decide +kernel, by decide +kernel⟩
abbrev s_l_numbers : Stmt := topS 50
abbrev n_l_numbers : List Str := ["_law_pot_here", "_law_many", "_law_left", "_law_found", "_law_kind", "_law_one", "_law_other"]
theorem sc_l_numbers : FnScope n_l_numbers ["_law_pot_here", "_law_many"] (defScope s_l_numbers) := ⟨rfl, rfl, rfl, by decide +kernel, rfl, by decide +kernel, by decide +kernel⟩
abbrev s_l_led_right : Stmt := topS 51
abbrev n_l_led_right : List Str := ["_law_country", "_law_late", "_law_places", "_law_lanes", "_law_one", "_law_other", "_law_target", "_law_place"]
theorem sc_l_led_right : FnScope n_l_led_right ["_law_country", "_law_late", "_law_places", "_law_lanes", "_law_one", "_law_other"] (defScope s_l_led_right) := ⟨rfl, rfl, rfl, by decide +kernel, rfl, by decide +kernel, by decide +kernel⟩
abbrev s_l_right : Stmt := topS 52
abbrev n_l_right : List Str := ["_law_pot_here", "_law_lanes", "_law_country", "_law_many", "_law_places", "_law_shown", "_law_late", "_law_led", "_law_turn", "_law_back", "_law_more", "_law_both", "_law_one", "_law_other", "_law_place", "_law_number"]
theorem sc_l_right : FnScope n_l_right ["_law_pot_here"] (defScope s_l_right) := ⟨rfl, rfl, rfl, by decide +kernel, rfl, by decide +kernel, by decide +kernel⟩
abbrev s_law : Stmt := topS 53
abbrev n_law : List Str := ["_law_script"]
theorem sc_law : FnScope n_law ["_law_script"] (defScope s_law) := ⟨rfl, rfl, rfl, by decide +kernel, rfl, by decide +kernel, by decide +kernel⟩
structure Adr where
  is_count : Addr
  is_count_fd : FuncData
  is_row : Addr
  is_row_fd : FuncData
  Country_init : Addr
  Country_init_fd : FuncData
  Country_lanes : Addr
  Country_lanes_fd : FuncData
  Country_lanes_p : Addr
  Country_yards : Addr
  Country_yards_fd : FuncData
  Country_yards_p : Addr
  Country_gates : Addr
  Country_gates_fd : FuncData
  Country_gates_p : Addr
  Country_neighbours : Addr
  Country_neighbours_fd : FuncData
  Country_ahead : Addr
  Country_ahead_fd : FuncData
  Country_eq : Addr
  Country_eq_fd : FuncData
  is_place : Addr
  is_place_fd : FuncData
  is_yard : Addr
  is_yard_fd : FuncData
  is_neighbour : Addr
  is_neighbour_fd : FuncData
  are_lanes : Addr
  are_lanes_fd : FuncData
  is_pair_up_to : Addr
  is_pair_up_to_fd : FuncData
  neighbours_by_place : Addr
  neighbours_by_place_fd : FuncData
  yards_among : Addr
  yards_among_fd : FuncData
  places_ahead : Addr
  places_ahead_fd : FuncData
  check_country : Addr
  check_country_fd : FuncData
  check_place : Addr
  check_place_fd : FuncData
  check_yard : Addr
  check_yard_fd : FuncData
  check_country_and_yard : Addr
  check_country_and_yard_fd : FuncData
  check_target : Addr
  check_target_fd : FuncData
  way : Addr
  way_fd : FuncData
  distance : Addr
  distance_fd : FuncData
  next_place : Addr
  next_place_fd : FuncData
  behind : Addr
  behind_fd : FuncData
  renamed : Addr
  renamed_fd : FuncData
  are_new_numbers : Addr
  are_new_numbers_fd : FuncData
  places_along : Addr
  places_along_fd : FuncData
  yards_behind : Addr
  yards_behind_fd : FuncData
  lanes_along : Addr
  lanes_along_fd : FuncData
  l_pot : Addr
  l_pot_fd : FuncData
  l_draw : Addr
  l_draw_fd : FuncData
  l_pick : Addr
  l_pick_fd : FuncData
  l_drawn : Addr
  l_drawn_fd : FuncData
  l_beside : Addr
  l_beside_fd : FuncData
  l_yards : Addr
  l_yards_fd : FuncData
  l_gates : Addr
  l_gates_fd : FuncData
  l_numbers : Addr
  l_numbers_fd : FuncData
  l_led_right : Addr
  l_led_right_fd : FuncData
  l_right : Addr
  l_right_fd : FuncData
  law : Addr
  law_fd : FuncData
  Country : Addr
structure Txt (K : PySem.W.Frag) (mg : Str → Option Value) (A : Adr) : Prop where
  F_is_count : Fun K "is_count" "is_count" s_is_count A.is_count A.is_count_fd
  b_is_count : L2.Binds K A.is_count_fd ["value"] []
  m_is_count : mg "is_count" = some (.ref A.is_count)
  F_is_row : Fun K "is_row" "is_row" s_is_row A.is_row A.is_row_fd
  b_is_row : L2.Binds K A.is_row_fd ["value"] []
  m_is_row : mg "is_row" = some (.ref A.is_row)
  F_Country_init : Fun K "__init__" "Country.__init__" s_Country_init A.Country_init A.Country_init_fd
  b_Country_init : L2.Binds K A.Country_init_fd ["self", "lanes"] []
  F_Country_lanes : Fun K "lanes" "Country.lanes" s_Country_lanes A.Country_lanes A.Country_lanes_fd
  b_Country_lanes : L2.Binds K A.Country_lanes_fd ["self"] []
  pr_Country_lanes : PropOf K A.Country "lanes" A.Country_lanes_p A.Country_lanes
  F_Country_yards : Fun K "yards" "Country.yards" s_Country_yards A.Country_yards A.Country_yards_fd
  b_Country_yards : L2.Binds K A.Country_yards_fd ["self"] []
  pr_Country_yards : PropOf K A.Country "yards" A.Country_yards_p A.Country_yards
  F_Country_gates : Fun K "gates" "Country.gates" s_Country_gates A.Country_gates A.Country_gates_fd
  b_Country_gates : L2.Binds K A.Country_gates_fd ["self"] []
  pr_Country_gates : PropOf K A.Country "gates" A.Country_gates_p A.Country_gates
  F_Country_neighbours : Fun K "neighbours" "Country.neighbours" s_Country_neighbours A.Country_neighbours A.Country_neighbours_fd
  b_Country_neighbours : L2.Binds K A.Country_neighbours_fd ["self", "place"] []
  me_Country_neighbours : Meth K A.Country "neighbours" A.Country_neighbours
  F_Country_ahead : Fun K "ahead" "Country.ahead" s_Country_ahead A.Country_ahead A.Country_ahead_fd
  b_Country_ahead : L2.Binds K A.Country_ahead_fd ["self", "place", "goal"] []
  me_Country_ahead : Meth K A.Country "ahead" A.Country_ahead
  F_Country_eq : Fun K "__eq__" "Country.__eq__" s_Country_eq A.Country_eq A.Country_eq_fd
  b_Country_eq : L2.Binds K A.Country_eq_fd ["self", "other"] []
  me_Country_eq : Meth K A.Country "__eq__" A.Country_eq
  F_is_place : Fun K "is_place" "is_place" s_is_place A.is_place A.is_place_fd
  b_is_place : L2.Binds K A.is_place_fd ["country", "value"] []
  m_is_place : mg "is_place" = some (.ref A.is_place)
  F_is_yard : Fun K "is_yard" "is_yard" s_is_yard A.is_yard A.is_yard_fd
  b_is_yard : L2.Binds K A.is_yard_fd ["country", "value"] []
  m_is_yard : mg "is_yard" = some (.ref A.is_yard)
  F_is_neighbour : Fun K "is_neighbour" "is_neighbour" s_is_neighbour A.is_neighbour A.is_neighbour_fd
  b_is_neighbour : L2.Binds K A.is_neighbour_fd ["country", "place", "value"] []
  m_is_neighbour : mg "is_neighbour" = some (.ref A.is_neighbour)
  F_are_lanes : Fun K "are_lanes" "are_lanes" s_are_lanes A.are_lanes A.are_lanes_fd
  b_are_lanes : L2.Binds K A.are_lanes_fd ["value"] []
  m_are_lanes : mg "are_lanes" = some (.ref A.are_lanes)
  F_is_pair_up_to : Fun K "is_pair_up_to" "is_pair_up_to" s_is_pair_up_to A.is_pair_up_to A.is_pair_up_to_fd
  b_is_pair_up_to : L2.Binds K A.is_pair_up_to_fd ["value", "last"] []
  m_is_pair_up_to : mg "is_pair_up_to" = some (.ref A.is_pair_up_to)
  F_neighbours_by_place : Fun K "neighbours_by_place" "neighbours_by_place" s_neighbours_by_place A.neighbours_by_place A.neighbours_by_place_fd
  b_neighbours_by_place : L2.Binds K A.neighbours_by_place_fd ["lanes"] []
  m_neighbours_by_place : mg "neighbours_by_place" = some (.ref A.neighbours_by_place)
  F_yards_among : Fun K "yards_among" "yards_among" s_yards_among A.yards_among A.yards_among_fd
  b_yards_among : L2.Binds K A.yards_among_fd ["around"] []
  m_yards_among : mg "yards_among" = some (.ref A.yards_among)
  F_places_ahead : Fun K "places_ahead" "places_ahead" s_places_ahead A.places_ahead A.places_ahead_fd
  b_places_ahead : L2.Binds K A.places_ahead_fd ["around", "goal"] []
  m_places_ahead : mg "places_ahead" = some (.ref A.places_ahead)
  F_check_country : Fun K "check_country" "check_country" s_check_country A.check_country A.check_country_fd
  b_check_country : L2.Binds K A.check_country_fd ["country"] []
  m_check_country : mg "check_country" = some (.ref A.check_country)
  F_check_place : Fun K "check_place" "check_place" s_check_place A.check_place A.check_place_fd
  b_check_place : L2.Binds K A.check_place_fd ["country", "place"] []
  m_check_place : mg "check_place" = some (.ref A.check_place)
  F_check_yard : Fun K "check_yard" "check_yard" s_check_yard A.check_yard A.check_yard_fd
  b_check_yard : L2.Binds K A.check_yard_fd ["country", "yard"] []
  m_check_yard : mg "check_yard" = some (.ref A.check_yard)
  F_check_country_and_yard : Fun K "check_country_and_yard" "check_country_and_yard" s_check_country_and_yard A.check_country_and_yard A.check_country_and_yard_fd
  b_check_country_and_yard : L2.Binds K A.check_country_and_yard_fd ["country", "yard"] []
  m_check_country_and_yard : mg "check_country_and_yard" = some (.ref A.check_country_and_yard)
  F_check_target : Fun K "check_target" "check_target" s_check_target A.check_target A.check_target_fd
  b_check_target : L2.Binds K A.check_target_fd ["country", "yard", "target"] []
  m_check_target : mg "check_target" = some (.ref A.check_target)
  F_way : Fun K "way" "way" s_way A.way A.way_fd
  b_way : L2.Binds K A.way_fd ["country", "start", "end"] []
  m_way : mg "way" = some (.ref A.way)
  F_distance : Fun K "distance" "distance" s_distance A.distance A.distance_fd
  b_distance : L2.Binds K A.distance_fd ["country", "place", "goal"] []
  m_distance : mg "distance" = some (.ref A.distance)
  F_next_place : Fun K "next_place" "next_place" s_next_place A.next_place A.next_place_fd
  b_next_place : L2.Binds K A.next_place_fd ["country", "place", "goal"] []
  m_next_place : mg "next_place" = some (.ref A.next_place)
  F_behind : Fun K "behind" "behind" s_behind A.behind A.behind_fd
  b_behind : L2.Binds K A.behind_fd ["country", "yard", "target"] []
  m_behind : mg "behind" = some (.ref A.behind)
  F_renamed : Fun K "renamed" "renamed" s_renamed A.renamed A.renamed_fd
  b_renamed : L2.Binds K A.renamed_fd ["country", "places"] []
  m_renamed : mg "renamed" = some (.ref A.renamed)
  F_are_new_numbers : Fun K "are_new_numbers" "are_new_numbers" s_are_new_numbers A.are_new_numbers A.are_new_numbers_fd
  b_are_new_numbers : L2.Binds K A.are_new_numbers_fd ["country", "value"] []
  m_are_new_numbers : mg "are_new_numbers" = some (.ref A.are_new_numbers)
  F_places_along : Fun K "places_along" "places_along" s_places_along A.places_along A.places_along_fd
  b_places_along : L2.Binds K A.places_along_fd ["country", "start", "end"] []
  m_places_along : mg "places_along" = some (.ref A.places_along)
  F_yards_behind : Fun K "yards_behind" "yards_behind" s_yards_behind A.yards_behind A.yards_behind_fd
  b_yards_behind : L2.Binds K A.yards_behind_fd ["country", "yard", "target"] []
  m_yards_behind : mg "yards_behind" = some (.ref A.yards_behind)
  F_lanes_along : Fun K "lanes_along" "lanes_along" s_lanes_along A.lanes_along A.lanes_along_fd
  b_lanes_along : L2.Binds K A.lanes_along_fd ["country", "place", "goal"] []
  m_lanes_along : mg "lanes_along" = some (.ref A.lanes_along)
  F_l_pot : Fun K "_law_pot" "_law_pot" s_l_pot A.l_pot A.l_pot_fd
  b_l_pot : L2.Binds K A.l_pot_fd ["_law_script", "_law_k"] []
  m_l_pot : mg "_law_pot" = some (.ref A.l_pot)
  F_l_draw : Fun K "_law_draw" "_law_draw" s_l_draw A.l_draw A.l_draw_fd
  b_l_draw : L2.Binds K A.l_draw_fd ["_law_pot_here", "_law_many"] []
  m_l_draw : mg "_law_draw" = some (.ref A.l_draw)
  F_l_pick : Fun K "_law_pick" "_law_pick" s_l_pick A.l_pick A.l_pick_fd
  b_l_pick : L2.Binds K A.l_pick_fd ["_law_pot_here", "_law_some"] []
  m_l_pick : mg "_law_pick" = some (.ref A.l_pick)
  F_l_drawn : Fun K "_law_drawn" "_law_drawn" s_l_drawn A.l_drawn A.l_drawn_fd
  b_l_drawn : L2.Binds K A.l_drawn_fd ["_law_pot_here", "_law_most"] []
  m_l_drawn : mg "_law_drawn" = some (.ref A.l_drawn)
  F_l_beside : Fun K "_law_beside" "_law_beside" s_l_beside A.l_beside A.l_beside_fd
  b_l_beside : L2.Binds K A.l_beside_fd ["_law_lanes", "_law_place"] []
  m_l_beside : mg "_law_beside" = some (.ref A.l_beside)
  F_l_yards : Fun K "_law_yards" "_law_yards" s_l_yards A.l_yards A.l_yards_fd
  b_l_yards : L2.Binds K A.l_yards_fd ["_law_lanes"] []
  m_l_yards : mg "_law_yards" = some (.ref A.l_yards)
  F_l_gates : Fun K "_law_gates" "_law_gates" s_l_gates A.l_gates A.l_gates_fd
  b_l_gates : L2.Binds K A.l_gates_fd ["_law_lanes"] []
  m_l_gates : mg "_law_gates" = some (.ref A.l_gates)
  F_l_numbers : Fun K "_law_numbers" "_law_numbers" s_l_numbers A.l_numbers A.l_numbers_fd
  b_l_numbers : L2.Binds K A.l_numbers_fd ["_law_pot_here", "_law_many"] []
  m_l_numbers : mg "_law_numbers" = some (.ref A.l_numbers)
  F_l_led_right : Fun K "_law_led_right" "_law_led_right" s_l_led_right A.l_led_right A.l_led_right_fd
  b_l_led_right : L2.Binds K A.l_led_right_fd ["_law_country", "_law_late", "_law_places", "_law_lanes", "_law_one", "_law_other"] []
  m_l_led_right : mg "_law_led_right" = some (.ref A.l_led_right)
  F_l_right : Fun K "_law_right" "_law_right" s_l_right A.l_right A.l_right_fd
  b_l_right : L2.Binds K A.l_right_fd ["_law_pot_here"] []
  m_l_right : mg "_law_right" = some (.ref A.l_right)
  F_law : Fun K "law" "law" s_law A.law A.law_fd
  b_law : L2.Binds K A.law_fd ["_law_script"] []
  m_law : mg "law" = some (.ref A.law)
  ic_Country : C8.InsC K A.Country
  ne_Country : PySem.W.findIn K (.ref A.Country) "__ne__" = some (some (.builtin "object.__ne__"))
  cl_Country : Cls K A.Country
  mk_Country : Mk K A.Country A.Country_init
  m_Country : mg "Country" = some (.ref A.Country)
  na_Country_lanes : NoAttr K A.Country "_lanes"
  na_Country_around : NoAttr K A.Country "_around"
  na_Country_ahead : NoAttr K A.Country "_ahead"
  na_Country_yards : NoAttr K A.Country "_yards"
  na_Country_gates : NoAttr K A.Country "_gates"
  g_MOST_LANES_AT_A_PLACE : ∃ t, mg "MOST_LANES_AT_A_PLACE" = some (.int 4 t)
  g_MOST_YARDS : ∃ t, mg "MOST_YARDS" = some (.int 7 t)
  n_abs : mg "abs" = none
  n_all : mg "all" = none
  n_bool : mg "bool" = none
  n_divmod : mg "divmod" = none
  n_int : mg "int" = none
  n_isinstance : mg "isinstance" = none
  n_len : mg "len" = none
  n_list : mg "list" = none
  n_max : mg "max" = none
  n_min : mg "min" = none
  n_range : mg "range" = none
  n_repr : mg "repr" = none
  n_sorted : mg "sorted" = none
  n_tuple : mg "tuple" = none
end K15

set_option linter.all false
/-! Trees told by their lanes: adjacency, simple paths, and that these are unique. Plain Lean. -/
namespace TM
abbrev Lanes := List (Nat × Nat)
def Adj (L : Lanes) (a b : Nat) : Prop := (a, b) ∈ L ∨ (b, a) ∈ L
theorem Adj.symm {L : Lanes} {a b : Nat} (h : Adj L a b) : Adj L b a := h.elim Or.inr Or.inl

/-- vertices (the newest first) and lanes (the newest first): each new vertex hangs on an elder one -/
inductive Grow : List Nat → Lanes → Prop
  | one (v : Nat) : Grow [v] []
  | step {vs : List Nat} {L : Lanes} {a b : Nat} : Grow vs L → a ∈ vs → b ∉ vs → Grow (b :: vs) ((a, b) :: L)

theorem Grow.ends {vs : List Nat} {L : Lanes} (g : Grow vs L) : ∀ {a b : Nat}, Adj L a b → a ∈ vs ∧ b ∈ vs := by
  induction g with
  | one v => intro a b h; rcases h with h | h <;> cases h
  | step g ha hb ih =>
    intro x y h
    rcases h with h | h
    · rcases List.mem_cons.mp h with e | h
      · cases e; exact ⟨List.mem_cons_of_mem _ ha, List.mem_cons_self⟩
      · exact ⟨List.mem_cons_of_mem _ (ih (.inl h)).1, List.mem_cons_of_mem _ (ih (.inl h)).2⟩
    · rcases List.mem_cons.mp h with e | h
      · cases e; exact ⟨List.mem_cons_self, List.mem_cons_of_mem _ ha⟩
      · exact ⟨List.mem_cons_of_mem _ (ih (.inr h)).1, List.mem_cons_of_mem _ (ih (.inr h)).2⟩
theorem Grow.nodup {vs : List Nat} {L : Lanes} (g : Grow vs L) : vs.Nodup := by
  induction g with
  | one v => simp
  | step g ha hb ih => exact List.nodup_cons.mpr ⟨hb, ih⟩
theorem Grow.length {vs : List Nat} {L : Lanes} (g : Grow vs L) : vs.length = L.length + 1 := by
  induction g with
  | one v => rfl
  | step g ha hb ih => simp [ih]
/-- the newest vertex has one neighbour -/
theorem leaf_only {vs : List Nat} {L : Lanes} (g : Grow vs L) {a b c : Nat} (hb : b ∉ vs) (h : Adj ((a, b) :: L) b c) : c = a := by
  rcases h with h | h
  · rcases List.mem_cons.mp h with e | h
    · cases e; rfl
    · exact absurd (g.ends (.inl h)).1 hb
  · rcases List.mem_cons.mp h with e | h
    · cases e; rfl
    · exact absurd (g.ends (.inr h)).1 hb
theorem Adj.older {vs : List Nat} {L : Lanes} (g : Grow vs L) {a b x y : Nat} (hb : b ∉ vs) (h : Adj ((a, b) :: L) x y) (hx : x ≠ b) (hy : y ≠ b) : Adj L x y := by
  rcases h with h | h
  · rcases List.mem_cons.mp h with e | h
    · cases e; exact absurd rfl hy
    · exact .inl h
  · rcases List.mem_cons.mp h with e | h
    · cases e; exact absurd rfl hx
    · exact .inr h
theorem Grow.irrefl {vs : List Nat} {L : Lanes} (g : Grow vs L) : ∀ {a : Nat}, ¬ Adj L a a := by
  induction g with
  | one v => intro a h; rcases h with h | h <;> cases h
  | @step vs L a b g ha hb ih =>
    intro x h
    rcases h with h | h <;>
    · rcases List.mem_cons.mp h with e | h
      · cases e; exact hb ha
      · exact ih (.inl h)

/-! ### paths: neighbours one behind the other, none twice -/
def Chain (L : Lanes) : List Nat → Prop
  | [] => True
  | [_] => True
  | x :: y :: r => Adj L x y ∧ Chain L (y :: r)
structure Path (L : Lanes) (s t : Nat) (p : List Nat) : Prop where
  ch : Chain L p
  nd : p.Nodup
  hd : p.head? = some s
  lt : p.getLast? = some t
theorem Chain.tail {L : Lanes} {x : Nat} {r : List Nat} (h : Chain L (x :: r)) : Chain L r := by
  cases r with
  | nil => trivial
  | cons y r => exact h.2
theorem Chain.snoc {L : Lanes} {x : Nat} : ∀ {p : List Nat} {t : Nat}, Chain L p → p.getLast? = some t → Adj L t x → Chain L (p ++ [x])
  | [], _, _, h, _ => by simp at h
  | [a], t, _, h, k => by
    have e : a = t := Option.some.inj h
    subst e
    exact ⟨k, trivial⟩
  | a :: b :: r, t, h, e, k => by
    refine ⟨h.1, Chain.snoc (p := b :: r) h.2 ?_ k⟩
    rw [List.getLast?_cons_cons] at e
    exact e
theorem Chain.left {L : Lanes} : ∀ {p q : List Nat}, Chain L (p ++ q) → Chain L p
  | [], _, _ => trivial
  | [_], _, _ => trivial
  | a :: b :: r, q, h => ⟨h.1, Chain.left (p := b :: r) (q := q) h.2⟩
theorem Chain.right {L : Lanes} : ∀ {p q : List Nat}, Chain L (p ++ q) → Chain L q
  | [], _, h => h
  | _ :: r, q, h => Chain.right (p := r) (q := q) h.tail
theorem Chain.reverse {L : Lanes} : ∀ {p : List Nat}, Chain L p → Chain L p.reverse
  | [], _ => trivial
  | [_], _ => trivial
  | a :: b :: r, h => by
    have ih := Chain.reverse (p := b :: r) h.2
    rw [List.reverse_cons]
    refine Chain.snoc (t := b) ih ?_ h.1.symm
    rw [List.getLast?_reverse]
    rfl
theorem Path.reverse {L : Lanes} {s t : Nat} {p : List Nat} (h : Path L s t p) : Path L t s p.reverse :=
  ⟨h.ch.reverse, (List.reverse_perm p).nodup_iff.mpr h.nd, by rw [List.head?_reverse]; exact h.lt, by rw [List.getLast?_reverse]; exact h.hd⟩
theorem Chain.mono {L L' : Lanes} (k : ∀ x y, Adj L x y → Adj L' x y) : ∀ {p : List Nat}, Chain L p → Chain L' p
  | [], _ => trivial
  | [_], _ => trivial
  | _ :: _ :: _, h => ⟨k _ _ h.1, Chain.mono k h.2⟩
/-- a chain without the leaf is a chain of the elder lanes -/
theorem Chain.older {vs : List Nat} {L : Lanes} (g : Grow vs L) {a b : Nat} (hb : b ∉ vs) : ∀ {p : List Nat}, Chain ((a, b) :: L) p → b ∉ p → Chain L p
  | [], _, _ => trivial
  | [_], _, _ => trivial
  | x :: y :: r, h, n => ⟨h.1.older g hb (fun e => n (e ▸ List.mem_cons_self)) (fun e => n (e ▸ List.mem_cons_of_mem _ List.mem_cons_self)), Chain.older g hb h.2 fun e => n (List.mem_cons_of_mem _ e)⟩
/-- the leaf stands at an end alone -/
theorem leaf_end {vs : List Nat} {L : Lanes} (g : Grow vs L) {a b : Nat} (hb : b ∉ vs) : ∀ {p : List Nat} {t : Nat}, Chain ((a, b) :: L) p → p.Nodup → p.getLast? = some t → b ∈ p → p.head? = some b ∨ t = b
  | [], _, _, _, _, h => by cases h
  | [x], t, _, _, e, h => by
    have : b = x := by simpa using h
    subst this
    exact .inl rfl
  | x :: y :: r, t, c, nd, e, h => by
    rw [List.getLast?_cons_cons] at e
    rcases List.mem_cons.mp h with q | h
    · subst q; exact .inl rfl
    · have nd' := (List.nodup_cons.mp nd).2
      rcases leaf_end g hb c.2 nd' e h with q | q
      · have q : y = b := Option.some.inj q
        subst q
        -- y is the leaf: x is a, and what follows too
        have ex : x = a := leaf_only g hb c.1.symm
        cases r with
        | nil => exact .inr (Option.some.inj e).symm
        | cons z r =>
          have ez : z = a := leaf_only g hb c.2.1
          subst ex
          subst ez
          exact absurd (List.mem_cons_of_mem _ List.mem_cons_self) (List.nodup_cons.mp nd).1
      · exact .inr q
theorem path_from_leaf {vs : List Nat} {L : Lanes} (g : Grow vs L) {a b t : Nat} (hb : b ∉ vs) {p : List Nat} (h : Path ((a, b) :: L) b t p) (ht : t ≠ b) : ∃ q, p = b :: q ∧ Path L a t q := by
  obtain ⟨c, nd, hd, lt⟩ := h
  cases p with
  | nil => cases hd
  | cons x r =>
    have e : x = b := Option.some.inj hd
    subst e
    cases r with
    | nil => exact absurd (Option.some.inj lt).symm ht
    | cons y r =>
      have ey : y = a := leaf_only g hb c.1
      subst ey
      have nx := (List.nodup_cons.mp nd).1
      refine ⟨_, rfl, Chain.older g hb c.2 nx, (List.nodup_cons.mp nd).2, rfl, ?_⟩
      rw [List.getLast?_cons_cons] at lt
      exact lt
theorem path_one {L : Lanes} {s : Nat} {p : List Nat} (h : Path L s s p) : p = [s] := by
  obtain ⟨c, nd, hd, lt⟩ := h
  cases p with
  | nil => cases hd
  | cons x r =>
    have e : x = s := Option.some.inj hd
    subst e
    cases r with
    | nil => rfl
    | cons y r =>
      rw [List.getLast?_cons_cons] at lt
      exact absurd (List.mem_of_getLast? lt) (List.nodup_cons.mp nd).1
/-- SIMPLE PATHS ARE UNIQUE -/
theorem Grow.unique {vs : List Nat} {L : Lanes} (g : Grow vs L) : ∀ {s t : Nat} {p q : List Nat}, Path L s t p → Path L s t q → p = q := by
  induction g with
  | one v =>
    intro s t p q hp hq
    have f : ∀ {p : List Nat}, Path [] s t p → p = [s] := fun {p} h => by
      obtain ⟨c, nd, hd, lt⟩ := h
      cases p with
      | nil => cases hd
      | cons x r =>
        have e : x = s := Option.some.inj hd
        subst e
        cases r with
        | nil => rfl
        | cons y r => exact absurd c.1 (fun h => by rcases h with h | h <;> cases h)
    rw [f hp, f hq]
  | @step vs L a b g ha hb ih =>
    intro s t p q hp hq
    by_cases hs : s = b
    · subst hs
      by_cases ht : t = s
      · subst ht
        rw [path_one hp, path_one hq]
      · obtain ⟨p', rfl, h1⟩ := path_from_leaf g hb hp ht
        obtain ⟨q', rfl, h2⟩ := path_from_leaf g hb hq ht
        rw [ih h1 h2]
    · by_cases ht : t = b
      · subst ht
        have f := path_from_leaf g hb hp.reverse hs
        have f2 := path_from_leaf g hb hq.reverse hs
        obtain ⟨p', e1, h1⟩ := f
        obtain ⟨q', e2, h2⟩ := f2
        have e := ih h1 h2
        subst e
        have := e1.trans e2.symm
        have z := congrArg List.reverse this
        rwa [List.reverse_reverse, List.reverse_reverse] at z
      · have out : ∀ {p : List Nat}, Path ((a, b) :: L) s t p → Path L s t p := fun {p} h => by
          have nb : b ∉ p := fun hm => by
            rcases leaf_end g hb h.ch h.nd h.lt hm with e | e
            · exact hs (Option.some.inj (h.hd.symm.trans e))
            · exact ht e
          exact ⟨h.ch.older g hb nb, h.nd, h.hd, h.lt⟩
        exact ih (out hp) (out hq)
/-- and between any two there is one -/
theorem Grow.conn {vs : List Nat} {L : Lanes} (g : Grow vs L) : ∀ {s t : Nat}, s ∈ vs → t ∈ vs → ∃ p, Path L s t p ∧ ∀ x ∈ p, x ∈ vs := by
  induction g with
  | one v =>
    intro s t hs ht
    rw [List.mem_singleton] at hs ht
    rw [hs, ht]
    exact ⟨[v], ⟨trivial, by simp, rfl, rfl⟩, by simp⟩
  | @step vs L a b g ha hb ih =>
    have up : ∀ {s t : Nat}, s ∈ vs → t ∈ vs → ∃ p, Path ((a, b) :: L) s t p ∧ ∀ x ∈ p, x ∈ vs := fun {s t} hs ht => by
      obtain ⟨p, h, k⟩ := ih hs ht
      exact ⟨p, ⟨h.ch.mono (fun x y z => z.elim (fun z => .inl (List.mem_cons_of_mem _ z)) fun z => .inr (List.mem_cons_of_mem _ z)), h.nd, h.hd, h.lt⟩, k⟩
    have to : ∀ {s : Nat}, s ∈ vs → ∃ p, Path ((a, b) :: L) s b p ∧ ∀ x ∈ p, x ∈ b :: vs := fun {s} hs => by
      obtain ⟨p, h, k⟩ := up hs ha
      refine ⟨p ++ [b], ⟨h.ch.snoc h.lt (.inl List.mem_cons_self), ?_, ?_, by simp⟩, ?_⟩
      · exact List.nodup_append.mpr ⟨h.nd, by simp, fun x hx y hy e => by
          have : y = b := by simpa using hy
          subst this; subst e; exact hb (k _ hx)⟩
      · cases p with
        | nil => exact absurd h.hd (by simp)
        | cons x r => exact h.hd
      · intro x hx
        rcases List.mem_append.mp hx with q | q
        · exact List.mem_cons_of_mem _ (k x q)
        · have : x = b := by simpa using q
          subst this; exact List.mem_cons_self
    intro s t hs ht
    rcases List.mem_cons.mp hs with e | hs
    · subst e
      rcases List.mem_cons.mp ht with e | ht
      · subst e
        exact ⟨[t], ⟨trivial, by simp, rfl, rfl⟩, by simp⟩
      · obtain ⟨p, h, k⟩ := to ht
        exact ⟨p.reverse, h.reverse, fun x hx => k x (List.mem_reverse.mp hx)⟩
    · rcases List.mem_cons.mp ht with e | ht
      · rw [e]; exact to hs
      · obtain ⟨p, h, k⟩ := up hs ht
        exact ⟨p, h, fun x hx => List.mem_cons_of_mem _ (k x hx)⟩
end TM
set_option linter.all false
/-! neighbours, what a search tells, what lies behind. Plain Lean. -/
namespace TM
/-! ### neighbours -/
def out (L : Lanes) (i : Nat) : List Nat := (L.filter fun p => decide (p.1 = i)).map (·.2)
def inn (L : Lanes) (i : Nat) : List Nat := (L.filter fun p => decide (p.2 = i)).map (·.1)
def nb (L : Lanes) (i : Nat) : List Nat := out L i ++ inn L i
def nbP : Lanes → Nat → List Nat
  | [], _ => []
  | (a, b) :: L, i => (if a = i then [b] else []) ++ ((if b = i then [a] else []) ++ nbP L i)
theorem mem_out {L : Lanes} {i x : Nat} : x ∈ out L i ↔ (i, x) ∈ L := by
  unfold out
  simp only [List.mem_map, List.mem_filter, decide_eq_true_eq]
  constructor
  · rintro ⟨⟨a, b⟩, ⟨h, e⟩, q⟩
    simp only at e q
    subst e; subst q; exact h
  · intro h
    exact ⟨(i, x), ⟨h, rfl⟩, rfl⟩
theorem mem_inn {L : Lanes} {i x : Nat} : x ∈ inn L i ↔ (x, i) ∈ L := by
  unfold inn
  simp only [List.mem_map, List.mem_filter, decide_eq_true_eq]
  constructor
  · rintro ⟨⟨a, b⟩, ⟨h, e⟩, q⟩
    simp only at e q
    subst e; subst q; exact h
  · intro h
    exact ⟨(x, i), ⟨h, rfl⟩, rfl⟩
theorem mem_nb {L : Lanes} {i x : Nat} : x ∈ nb L i ↔ Adj L i x := by
  unfold nb Adj
  rw [List.mem_append, mem_out, mem_inn]
theorem nbP_perm : ∀ (L : Lanes) (i : Nat), (nbP L i).Perm (nb L i)
  | [], _ => List.Perm.nil
  | (a, b) :: L, i => by
    have ih := nbP_perm L i
    unfold nbP nb out inn
    simp only [List.filter_cons]
    unfold nb out inn at ih
    by_cases h1 : a = i <;> by_cases h2 : b = i <;> simp only [h1, h2, decide_true, decide_false, if_true, if_false, List.map_cons, List.nil_append, List.cons_append, Bool.false_eq_true]
    · refine List.Perm.cons _ ?_
      exact (List.Perm.cons _ ih).trans List.perm_middle.symm
    · exact List.Perm.cons _ ih
    · exact (List.Perm.cons _ ih).trans List.perm_middle.symm
    · exact ih
theorem nbP_snoc : ∀ (L : Lanes) (a b i : Nat), nbP (L ++ [(a, b)]) i = nbP L i ++ ((if a = i then [b] else []) ++ (if b = i then [a] else []))
  | [], a, b, i => by simp [nbP]
  | (c, d) :: L, a, b, i => by
    show _ ++ (_ ++ nbP (L ++ [(a, b)]) i) = (_ ++ (_ ++ nbP L i)) ++ _
    rw [nbP_snoc L a b i]
    simp only [List.append_assoc]
theorem Grow.nb_nodup {vs : List Nat} {L : Lanes} (g : Grow vs L) : ∀ i, (nb L i).Nodup := by
  induction g with
  | one v => intro i; simp [nb, out, inn]
  | @step vs L a b g ha hb ih =>
    intro i
    refine (nbP_perm ((a, b) :: L) i).nodup_iff.mp ?_
    have ih' := (nbP_perm L i).nodup_iff.mpr (ih i)
    have nab : a ≠ b := fun e => hb (e ▸ ha)
    unfold nbP
    by_cases h1 : a = i
    · have h2 : ¬ b = i := fun e => nab (h1.trans e.symm)
      rw [if_pos h1, if_neg h2]
      refine List.nodup_cons.mpr ⟨fun h => ?_, ih'⟩
      exact hb (g.ends (mem_nb.mp ((nbP_perm L i).mem_iff.mp h))).2
    · by_cases h2 : b = i
      · rw [if_neg h1, if_pos h2]
        refine List.nodup_cons.mpr ⟨fun h => ?_, ih'⟩
        subst h2
        exact hb (g.ends (mem_nb.mp ((nbP_perm L b).mem_iff.mp h))).1
      · rw [if_neg h1, if_neg h2]
        exact ih'
/-- what is used of a tree -/
structure Tr (vs : List Nat) (L : Lanes) : Prop where
  ends : ∀ {a b : Nat}, Adj L a b → a ∈ vs ∧ b ∈ vs
  irrefl : ∀ {a : Nat}, ¬ Adj L a a
  unique : ∀ {s t : Nat} {p q : List Nat}, Path L s t p → Path L s t q → p = q
  conn : ∀ {s t : Nat}, s ∈ vs → t ∈ vs → ∃ p, Path L s t p ∧ ∀ x ∈ p, x ∈ vs
  nbnd : ∀ i, (nb L i).Nodup
  length : vs.length = L.length + 1
  nodup : vs.Nodup
theorem nb_adj {L L0 : Lanes} (h : ∀ i, (nb L i).Perm (nb L0 i)) {a b : Nat} : Adj L a b ↔ Adj L0 a b := by
  rw [← mem_nb, ← mem_nb, (h a).mem_iff]
theorem Path.to {L L0 : Lanes} (h : ∀ {a b : Nat}, Adj L a b → Adj L0 a b) {s t : Nat} {p : List Nat} (P : Path L s t p) : Path L0 s t p := ⟨P.ch.mono fun _ _ z => h z, P.nd, P.hd, P.lt⟩
theorem Grow.tr {vs : List Nat} {L L0 : Lanes} (g : Grow vs L0) (h : ∀ i, (nb L i).Perm (nb L0 i)) (hl : L.length = L0.length) : Tr vs L where
  ends := fun a => g.ends ((nb_adj h).mp a)
  irrefl := fun a => g.irrefl ((nb_adj h).mp a)
  unique := fun P Q => g.unique (P.to (nb_adj h).mp) (Q.to (nb_adj h).mp)
  conn := fun hs ht => by
    obtain ⟨p, P, k⟩ := g.conn hs ht
    exact ⟨p, P.to (nb_adj h).mpr, k⟩
  nbnd := fun i => (h i).nodup_iff.mpr (g.nb_nodup i)
  length := by rw [hl, g.length]
  nodup := g.nodup
theorem two_nb {L : Lanes} {x y z : Nat} (h1 : Adj L x y) (h2 : Adj L x z) (n : y ≠ z) : 1 < (nb L x).length := by
  have m1 := mem_nb.mpr h1
  have m2 := mem_nb.mpr h2
  cases e : nb L x with
  | nil => rw [e] at m1; cases m1
  | cons a r =>
    cases r with
    | nil =>
      rw [e] at m1 m2
      exact absurd ((List.mem_singleton.mp m1).trans (List.mem_singleton.mp m2).symm) n
    | cons b r => simp
/-! ### sorted -/
def ins (x : Nat) : List Nat → List Nat
  | [] => [x]
  | y :: r => if x ≤ y then x :: y :: r else y :: ins x r
def isort : List Nat → List Nat
  | [] => []
  | x :: r => ins x (isort r)
theorem ins_perm (x : Nat) : ∀ l, (ins x l).Perm (x :: l)
  | [] => List.Perm.refl _
  | y :: r => by
    unfold ins
    by_cases h : x ≤ y
    · rw [if_pos h]
    · rw [if_neg h]
      exact ((ins_perm x r).cons y).trans (List.Perm.swap x y r)
theorem isort_perm : ∀ l, (isort l).Perm l
  | [] => List.Perm.nil
  | x :: r => (ins_perm x _).trans ((isort_perm r).cons x)
theorem ins_sorted (x : Nat) : ∀ {l : List Nat}, l.Pairwise (· ≤ ·) → (ins x l).Pairwise (· ≤ ·)
  | [], _ => by simp [ins]
  | y :: r, h => by
    unfold ins
    obtain ⟨h1, h2⟩ := List.pairwise_cons.mp h
    by_cases q : x ≤ y
    · rw [if_pos q]
      refine List.pairwise_cons.mpr ⟨fun z hz => ?_, h⟩
      rcases List.mem_cons.mp hz with e | hz
      · subst e; exact q
      · exact Nat.le_trans q (h1 z hz)
    · rw [if_neg q]
      refine List.pairwise_cons.mpr ⟨fun z hz => ?_, ins_sorted x h2⟩
      rcases List.mem_cons.mp ((ins_perm x r).mem_iff.mp hz) with e | hz
      · subst e; omega
      · exact h1 z hz
theorem isort_sorted : ∀ l, (isort l).Pairwise (· ≤ ·)
  | [] => by simp [isort]
  | x :: r => ins_sorted x (isort_sorted r)
theorem sorted_unique : ∀ {l m : List Nat}, l.Perm m → l.Pairwise (· ≤ ·) → m.Pairwise (· ≤ ·) → l = m
  | [], m, p, _, _ => by
    have := p.length_eq
    cases m with
    | nil => rfl
    | cons a r => simp at this
  | a :: l, [], p, _, _ => by have := p.length_eq; simp at this
  | a :: l, b :: m, p, h1, h2 => by
    obtain ⟨a1, a2⟩ := List.pairwise_cons.mp h1
    obtain ⟨b1, b2⟩ := List.pairwise_cons.mp h2
    have e : a = b := by
      have ma : a ∈ b :: m := p.mem_iff.mp List.mem_cons_self
      have mb : b ∈ a :: l := p.mem_iff.mpr List.mem_cons_self
      rcases List.mem_cons.mp ma with e | ma
      · exact e
      · rcases List.mem_cons.mp mb with e | mb
        · exact e.symm
        · have q1 := b1 a ma
          have q2 := a1 b mb
          omega
    subst e
    rw [sorted_unique (List.Perm.cons_inv p) a2 b2]
theorem isort_eq {l m : List Nat} (p : m.Perm l) (h : m.Pairwise (· ≤ ·)) : m = isort l := sorted_unique (p.trans (isort_perm l).symm) h (isort_sorted l)
theorem isort_congr {l m : List Nat} (p : l.Perm m) : isort l = isort m := isort_eq ((isort_perm l).trans p) (isort_sorted l)
theorem isort_of_sorted {l : List Nat} (h : l.Pairwise (· ≤ ·)) : isort l = l := (isort_eq (List.Perm.refl l) h).symm
theorem isort_length (l : List Nat) : (isort l).length = l.length := (isort_perm l).length_eq
/-- an int list that Python sorted -/
theorem int_sorted {l : List Nat} {m : List Int} (p : m.Perm (l.map fun (n : Nat) => (n : Int))) (h : m.Pairwise (· ≤ ·)) : m = (isort l).map fun (n : Nat) => (n : Int) := by
  have g : ∃ k : List Nat, m = k.map fun (n : Nat) => (n : Int) := by
    have nn : ∀ z ∈ m, 0 ≤ z := fun z hz => by
      obtain ⟨n, _, e⟩ := List.mem_map.mp (p.mem_iff.mp hz)
      subst e; exact Int.natCast_nonneg _
    clear p h
    induction m with
    | nil => exact ⟨[], rfl⟩
    | cons z r ih =>
      obtain ⟨k, e⟩ := ih fun y hy => nn y (List.mem_cons_of_mem _ hy)
      refine ⟨z.toNat :: k, ?_⟩
      rw [List.map_cons, ← e]
      have := nn z List.mem_cons_self
      congr 1
      omega
  obtain ⟨k, rfl⟩ := g
  have pk : k.Perm l := by
    have := p.map Int.toNat
    rw [List.map_map, List.map_map] at this
    have f : (Int.toNat ∘ fun (n : Nat) => (n : Int)) = id := by funext n; simp
    rw [f, List.map_id, List.map_id] at this
    exact this
  have hk : k.Pairwise (· ≤ ·) := by
    rw [List.pairwise_map] at h
    exact h.imp fun q => by omega
  rw [isort_eq pk hk]
def adj (L : Lanes) (i : Nat) : List Nat := isort (nb L i)
theorem mem_adj {L : Lanes} {i x : Nat} : x ∈ adj L i ↔ Adj L i x := by
  unfold adj
  rw [(isort_perm _).mem_iff, mem_nb]
theorem adjP (L : Lanes) (i : Nat) : isort (nbP L i) = adj L i := isort_congr (nbP_perm L i)
theorem adj_length (L : Lanes) (i : Nat) : (adj L i).length = (nb L i).length := isort_length _
theorem Tr.adj_nodup {vs : List Nat} {L : Lanes} (g : Tr vs L) (i : Nat) : (adj L i).Nodup := (isort_perm _).nodup_iff.mpr (g.nbnd i)
/-! ### what a search tells -/
structure Told (L : Lanes) (goal : Nat) (kvs : List (Nat × Nat)) : Prop where
  nd : (kvs.map (·.1)).Nodup
  ord : ∀ (i k h : Nat), kvs[i]? = some (k, h) → Adj L h k ∧ k ≠ goal ∧ (h = goal ∨ ∃ j, j < i ∧ ∃ h', kvs[j]? = some (h, h'))
structure Ahead (L : Lanes) (goal : Nat) (kvs : List (Nat × Nat)) : Prop extends toTold : Told L goal kvs where
  closed : ∀ (x y : Nat), (x = goal ∨ x ∈ kvs.map (·.1)) → Adj L x y → y = goal ∨ y ∈ kvs.map (·.1)
theorem nodup_ix {α : Type} {l : List α} (nd : l.Nodup) {i j : Nat} {x : α} (a : l[i]? = some x) (b : l[j]? = some x) : i = j := by
  obtain ⟨h1, e1⟩ := List.getElem?_eq_some_iff.mp a
  obtain ⟨h2, e2⟩ := List.getElem?_eq_some_iff.mp b
  exact (List.getElem_inj nd).mp (e1.trans e2.symm)
theorem Told.key_ix {L : Lanes} {goal : Nat} {kvs : List (Nat × Nat)} (T : Told L goal kvs) {i j k h h' : Nat} (a : kvs[i]? = some (k, h)) (b : kvs[j]? = some (k, h')) : i = j := by
  refine nodup_ix T.nd (x := k) ?_ ?_
  · rw [List.getElem?_map, a]; rfl
  · rw [List.getElem?_map, b]; rfl
theorem Told.path {L : Lanes} {goal : Nat} {kvs : List (Nat × Nat)} (T : Told L goal kvs) : ∀ (i k h : Nat), kvs[i]? = some (k, h) →
    ∃ r, Path L k goal (k :: h :: r) ∧ ∀ x ∈ k :: h :: r, x = goal ∨ ∃ j, j ≤ i ∧ ∃ h', kvs[j]? = some (x, h') := by
  intro i
  induction i using Nat.strongRecOn with
  | _ i ih =>
    intro k h e
    obtain ⟨a, ng, o⟩ := T.ord i k h e
    rcases o with o | ⟨j, hj, h', e'⟩
    · subst o
      refine ⟨[], ⟨⟨a.symm, trivial⟩, by simp [ng], rfl, rfl⟩, fun x hx => ?_⟩
      rcases List.mem_cons.mp hx with q | hx
      · subst q; exact .inr ⟨i, Nat.le_refl _, h, e⟩
      · exact .inl (List.mem_singleton.mp hx)
    · obtain ⟨r, P, K⟩ := ih j hj h h' e'
      refine ⟨h' :: r, ⟨⟨a.symm, P.ch⟩, List.nodup_cons.mpr ⟨fun hm => ?_, P.nd⟩, rfl, ?_⟩, fun x hx => ?_⟩
      · rcases K k hm with q | ⟨j', hj', h'', q⟩
        · exact ng q
        · have := T.key_ix e q
          omega
      · rw [List.getLast?_cons_cons]; exact P.lt
      · rcases List.mem_cons.mp hx with q | hx
        · subst q; exact .inr ⟨i, Nat.le_refl _, h, e⟩
        · rcases K x hx with q | ⟨j', hj', q⟩
          · exact .inl q
          · exact .inr ⟨j', by omega, q⟩
theorem Ahead.all {vs : List Nat} {L : Lanes} {goal : Nat} {kvs : List (Nat × Nat)} (g : Tr vs L) (A : Ahead L goal kvs) (hg : goal ∈ vs) {x : Nat} (hx : x ∈ vs) : x = goal ∨ x ∈ kvs.map (·.1) := by
  obtain ⟨p, P, _⟩ := g.conn hg hx
  have f : ∀ (p : List Nat) (s t : Nat), Chain L p → p.head? = some s → p.getLast? = some t → (s = goal ∨ s ∈ kvs.map (·.1)) → t = goal ∨ t ∈ kvs.map (·.1) := by
    intro p
    induction p with
    | nil => intro s t _ h; cases h
    | cons a r ih =>
      intro s t c h l k
      have e : a = s := Option.some.inj h
      subst e
      cases r with
      | nil =>
        have e : a = t := Option.some.inj l
        subst e; exact k
      | cons b r =>
        rw [List.getLast?_cons_cons] at l
        exact ih b t c.2 rfl l (A.closed _ _ k c.1)
  exact f p goal x P.ch P.hd P.lt (.inl rfl)
/-- what is told of a place: the next one on its way -/
def look (kvs : List (Nat × Nat)) (k : Nat) : Option Nat := (kvs.find? fun p => decide (p.1 = k)).map (·.2)
theorem look_ix {kvs : List (Nat × Nat)} {k h : Nat} (e : look kvs k = some h) : ∃ i : Nat, kvs[i]? = some (k, h) := by
  unfold look at e
  cases q : kvs.find? fun p => decide (p.1 = k) with
  | none => rw [q] at e; cases e
  | some p =>
    rw [q] at e
    have e : p.2 = h := Option.some.inj e
    have m := List.mem_of_find?_eq_some q
    have z := List.find?_some q
    obtain ⟨i, hi⟩ := List.getElem?_of_mem m
    obtain ⟨a, b⟩ := p
    have z : a = k := by simpa using z
    subst z; subst e
    exact ⟨i, hi⟩
theorem look_some {kvs : List (Nat × Nat)} {k : Nat} (h : k ∈ kvs.map (·.1)) : ∃ v, look kvs k = some v := by
  unfold look
  cases q : kvs.find? fun p => decide (p.1 = k) with
  | some p => exact ⟨p.2, rfl⟩
  | none =>
    obtain ⟨p, hp, e⟩ := List.mem_map.mp h
    have := List.find?_eq_none.mp q p hp
    simp [e] at this
theorem Ahead.next {vs : List Nat} {L : Lanes} {goal : Nat} {kvs : List (Nat × Nat)} (g : Tr vs L) (A : Ahead L goal kvs) (hg : goal ∈ vs) {x : Nat} (hx : x ∈ vs) (n : x ≠ goal) : ∃ h r, look kvs x = some h ∧ Path L x goal (x :: h :: r) := by
  rcases A.all g hg hx with e | m
  · exact absurd e n
  · obtain ⟨h, e⟩ := look_some m
    obtain ⟨i, hi⟩ := look_ix e
    obtain ⟨r, P, _⟩ := A.toTold.path i x h hi
    exact ⟨h, r, e, P⟩
/-! ### next places -/
/-- N g p: the place behind p on the way to g -/
def IsNext (vs : List Nat) (L : Lanes) (N : Nat → Nat → Nat) : Prop := ∀ g p, g ∈ vs → p ∈ vs → p ≠ g → ∃ r, Path L p g (p :: N g p :: r)
section
variable {vs : List Nat} {L : Lanes} {N : Nat → Nat → Nat}
theorem next_of (G : Tr vs L) (I : IsNext vs L N) {p g h : Nat} {r : List Nat} (P : Path L p g (p :: h :: r)) : N g p = h := by
  have hp := (G.ends P.ch.1).1
  have n : p ≠ g := fun e => by
    have l := P.lt
    rw [List.getLast?_cons_cons] at l
    rw [← e] at l
    exact (List.nodup_cons.mp P.nd).1 (List.mem_of_getLast? l)
  have hg : g ∈ vs := by
    have f : ∀ (r : List Nat) (x h : Nat), Chain L (x :: h :: r) → (h :: r).getLast? = some g → g ∈ vs := by
      intro r
      induction r with
      | nil => intro x h c l; have e : h = g := Option.some.inj l; exact e ▸ (G.ends c.1).2
      | cons y r ih => intro x h c l; exact ih h y c.2 (by rw [List.getLast?_cons_cons] at l; exact l)
    have l := P.lt
    rw [List.getLast?_cons_cons] at l
    exact f r p h P.ch l
  obtain ⟨r', P'⟩ := I g p hg hp n
  have := G.unique P P'
  injection this with _ e
  injection e with e _
  exact e.symm
/-- a neighbour on the way is the next place -/
theorem on_way (G : Tr vs L) {y o h t : Nat} {r : List Nat} (P : Path L y o (y :: h :: r)) (a : Adj L y t) (m : t ∈ h :: r) : t = h := by
  obtain ⟨A, B, e⟩ := List.append_of_mem m
  have c : Chain L (t :: B) := by
    have := P.ch.tail
    rw [e] at this
    exact this.right
  have nd := List.nodup_cons.mp P.nd
  have P' : Path L y o (y :: t :: B) := by
    refine ⟨⟨a, c⟩, List.nodup_cons.mpr ⟨fun hm => nd.1 ?_, ?_⟩, rfl, ?_⟩
    · rw [e]; exact List.mem_append_right _ hm
    · have := nd.2
      rw [e] at this
      exact (List.nodup_append.mp this).2.1
    · have l := P.lt
      rw [List.getLast?_cons_cons, e] at l
      rw [List.getLast?_cons_cons]
      rw [List.getLast?_append] at l
      cases q : (t :: B).getLast? with
      | none => simp at q
      | some z => rw [q] at l; exact l
  have := G.unique P P'
  injection this with _ q
  injection q with q _
  exact q.symm
/-- is u behind y, seen from t? -/
def beh (N : Nat → Nat → Nat) (y t u : Nat) : Bool := decide (u = y) || !decide (N u y = t)
/-- own ways tell the same -/
theorem beh_way (G : Tr vs L) (I : IsNext vs L N) {y t u : Nat} {W : List Nat} (hy : y ∈ vs) (hu : u ∈ vs) (a : Adj L y t) (P : Path L u y W) : beh N y t u = !decide (t ∈ W) := by
  have nty : t ≠ y := fun e => G.irrefl (e ▸ a)
  unfold beh
  by_cases e : u = y
  · subst e
    have : W = [u] := path_one P
    subst this
    simp [nty]
  · obtain ⟨r, Q⟩ := I u y hu hy (fun z => e z.symm)
    have : W = (y :: N u y :: r).reverse := by
      have := G.unique P.reverse Q
      rw [← this, List.reverse_reverse]
    rw [this]
    simp only [e, decide_false, Bool.false_or, List.mem_reverse]
    by_cases q : N u y = t
    · simp [q]
    · have : t ∉ y :: N u y :: r := fun m => by
        rcases List.mem_cons.mp m with z | m
        · exact nty z
        · exact q (on_way G Q a m).symm
      simp [q, this]
theorem next_nb (G : Tr vs L) (I : IsNext vs L N) {x y : Nat} (a : Adj L x y) : N y x = y := by
  have n : x ≠ y := fun e => G.irrefl (e ▸ a)
  exact next_of G I (r := []) ⟨⟨a, trivial⟩, by simp [n], rfl, rfl⟩
/-- each u lies behind just one of both -/
theorem beh_other (G : Tr vs L) (I : IsNext vs L N) {y t u : Nat} (hu : u ∈ vs) (a : Adj L y t) : beh N t y u = !beh N y t u := by
  have n : y ≠ t := fun e => G.irrefl (e ▸ a)
  unfold beh
  by_cases e1 : u = y
  · subst e1
    have : ¬ u = t := n
    simp [this, next_nb G I a.symm]
  · by_cases e2 : u = t
    · subst e2
      simp [e1, next_nb G I a]
    · have hy := (G.ends a).1
      have ht := (G.ends a).2
      obtain ⟨r, P⟩ := I u y hu hy (fun z => e1 z.symm)
      simp only [e1, e2, decide_false, Bool.false_or]
      by_cases q : N u y = t
      · -- t behind y
        rw [q] at P
        cases r with
        | nil =>
          have := P.lt
          exact absurd (Option.some.inj this).symm e2
        | cons z r =>
          have nd := List.nodup_cons.mp P.nd
          have Pt : Path L t u (t :: z :: r) := ⟨P.ch.2, nd.2, rfl, by have := P.lt; rwa [List.getLast?_cons_cons] at this⟩
          have := next_of G I Pt
          have nz : ¬ N u t = y := by
            rw [this]
            intro ez
            exact nd.1 (ez ▸ List.mem_cons_of_mem _ List.mem_cons_self)
          simp [q, nz]
      · have nt : t ∉ y :: N u y :: r := fun m => by
          rcases List.mem_cons.mp m with z | m
          · exact n z.symm
          · exact q (on_way G P a m).symm
        have Pt : Path L t u (t :: y :: N u y :: r) := ⟨⟨a.symm, P.ch⟩, List.nodup_cons.mpr ⟨nt, P.nd⟩, rfl, by rw [List.getLast?_cons_cons]; exact P.lt⟩
        have := next_of G I Pt
        simp [q, this]
/-- behind y seen from t, but y: behind the one neighbour ahead -/
theorem beh_nb (G : Tr vs L) (I : IsNext vs L N) {y o u : Nat} (hu : u ∈ vs) (a : Adj L y o) : beh N o y u = true ↔ u ≠ y ∧ N u y = o := by
  rw [beh_other G I hu a]
  unfold beh
  by_cases e : u = y <;> simp [e]
/-- the next place is a yard, if the end is one -/
theorem next_yard (G : Tr vs L) (I : IsNext vs L N) {y u : Nat} (hu : u ∈ vs) (hy : y ∈ vs) (n : u ≠ y) (yu : 1 < (nb L u).length) : Adj L y (N u y) ∧ 1 < (nb L (N u y)).length := by
  obtain ⟨r, P⟩ := I u y hu hy (fun z => n z.symm)
  refine ⟨P.ch.1, ?_⟩
  cases r with
  | nil =>
    have e : N u y = u := Option.some.inj P.lt
    rw [e]; exact yu
  | cons z r =>
    refine two_nb (y := y) (z := z) P.ch.1.symm P.ch.2.1 fun e => ?_
    exact (List.nodup_cons.mp P.nd).1 (e ▸ List.mem_cons_of_mem _ List.mem_cons_self)
end
end TM
set_option linter.all false
/-! searches: deep (the program's) and broad (the law's), by what holds between two turns. Plain Lean. -/
namespace TM
theorem nodup_len : ∀ {l m : List Nat}, l.Nodup → (∀ x ∈ l, x ∈ m) → l.length ≤ m.length
  | [], _, _, _ => Nat.zero_le _
  | a :: l, m, nd, h => by
    obtain ⟨n1, n2⟩ := List.nodup_cons.mp nd
    have ha := h a List.mem_cons_self
    have := nodup_len (l := l) (m := m.erase a) n2 fun x hx => (List.mem_erase_of_ne (fun (e : x = a) => n1 (by rw [← e]; exact hx))).mpr (h x (List.mem_cons_of_mem _ hx))
    rw [List.length_erase_of_mem ha] at this
    have := List.length_pos_of_mem ha
    simp
    omega
def keys (kvs : List (Nat × Nat)) : List Nat := kvs.map (·.1)
def Known (goal : Nat) (kvs : List (Nat × Nat)) (x : Nat) : Prop := x = goal ∨ x ∈ keys kvs
theorem Known.more {goal : Nat} {kvs : List (Nat × Nat)} {x : Nat} {q : Nat × Nat} (h : Known goal kvs x) : Known goal (kvs ++ [q]) x := h.elim .inl fun h => .inr (by
  unfold keys at *
  rw [List.map_append]
  exact List.mem_append_left _ h)
theorem known_new {goal : Nat} {kvs : List (Nat × Nat)} {y h : Nat} : Known goal (kvs ++ [(y, h)]) y := .inr (by simp [keys])
structure DOut (L : Lanes) (goal : Nat) (kvs : List (Nat × Nat)) (wt : List Nat) : Prop where
  told : Told L goal kvs
  sub : ∀ x ∈ wt, Known goal kvs x
  closed : ∀ x y, Known goal kvs x → x ∉ wt → Adj L x y → Known goal kvs y
structure DIn (L : Lanes) (goal here : Nat) (i : Nat) (kvs : List (Nat × Nat)) (wt : List Nat) : Prop where
  told : Told L goal kvs
  sub : ∀ x ∈ wt, Known goal kvs x
  me : Known goal kvs here
  closed : ∀ x y, Known goal kvs x → x ∉ wt → x ≠ here → Adj L x y → Known goal kvs y
  part : ∀ y ∈ (adj L here).take i, Known goal kvs y
theorem DOut.start (L : Lanes) (goal : Nat) : DOut L goal [] [goal] := by
  refine ⟨⟨List.nodup_nil, fun i k h e => by simp at e⟩, fun x hx => .inl (List.mem_singleton.mp hx), fun x y k n _ => ?_⟩
  rcases k with k | k
  · exact absurd (List.mem_singleton.mpr k) n
  · cases k
theorem DOut.pop {L : Lanes} {goal here : Nat} {kvs : List (Nat × Nat)} {wt : List Nat} (h : DOut L goal kvs (wt ++ [here])) : DIn L goal here 0 kvs wt := by
  refine ⟨h.told, fun x hx => h.sub x (List.mem_append_left _ hx), h.sub here (by simp), fun x y k n ne a => h.closed x y k (fun m => ?_) a, fun y hy => by simp at hy⟩
  rcases List.mem_append.mp m with m | m
  · exact n m
  · exact ne (List.mem_singleton.mp m)
theorem DIn.done {L : Lanes} {goal here : Nat} {kvs : List (Nat × Nat)} {wt : List Nat} (h : DIn L goal here (adj L here).length kvs wt) : DOut L goal kvs wt := by
  refine ⟨h.told, h.sub, fun x y k n a => ?_⟩
  by_cases e : x = here
  · subst e
    refine h.part y ?_
    rw [List.take_length]
    exact mem_adj.mpr a
  · exact h.closed x y k n e a
theorem DIn.skip {L : Lanes} {goal here i y : Nat} {kvs : List (Nat × Nat)} {wt : List Nat} (h : DIn L goal here i kvs wt) (hy : (adj L here)[i]? = some y) (k : Known goal kvs y) : DIn L goal here (i + 1) kvs wt := by
  refine ⟨h.told, h.sub, h.me, h.closed, fun z hz => ?_⟩
  rw [List.take_add_one, hy] at hz
  rcases List.mem_append.mp hz with hz | hz
  · exact h.part z hz
  · have : z = y := by simpa using hz
    subst this
    exact k
theorem Told.more {L : Lanes} {goal here y : Nat} {kvs : List (Nat × Nat)} (h : Told L goal kvs) (me : Known goal kvs here) (a : Adj L here y) (n : ¬ Known goal kvs y) : Told L goal (kvs ++ [(y, here)]) := by
  have n1 : y ≠ goal := fun e => n (.inl e)
  have n2 : y ∉ keys kvs := fun e => n (.inr e)
  refine ⟨?_, fun i k hh e => ?_⟩
  · rw [List.map_append]
    exact List.nodup_append.mpr ⟨h.nd, by simp, fun x hx z hz e => by
      have : z = y := by simpa using hz
      subst this
      subst e
      exact n2 hx⟩
  · by_cases hi : i < kvs.length
    · rw [List.getElem?_append_left hi] at e
      obtain ⟨b1, b2, b3⟩ := h.ord i k hh e
      refine ⟨b1, b2, b3.elim .inl fun ⟨j, hj, h', e'⟩ => .inr ⟨j, hj, h', ?_⟩⟩
      rw [List.getElem?_append_left (by omega)]
      exact e'
    · rw [List.getElem?_append_right (by omega)] at e
      have e0 : i - kvs.length = 0 := by
        have := (List.getElem?_eq_some_iff.mp e).1
        simp at this
        omega
      rw [e0] at e
      have e : (y, here) = (k, hh) := Option.some.inj e
      cases e
      refine ⟨a, n1, me.elim .inl fun m => .inr ?_⟩
      obtain ⟨p, hp, e2⟩ := List.mem_map.mp m
      obtain ⟨j, hj⟩ := List.getElem?_of_mem hp
      have hj2 := (List.getElem?_eq_some_iff.mp hj).1
      obtain ⟨p1, p2⟩ := p
      simp only at e2
      subst e2
      exact ⟨j, by omega, p2, by rw [List.getElem?_append_left hj2]; exact hj⟩
theorem DIn.add {L : Lanes} {goal here i y : Nat} {kvs : List (Nat × Nat)} {wt : List Nat} (h : DIn L goal here i kvs wt) (hy : (adj L here)[i]? = some y) (n : ¬ Known goal kvs y) : DIn L goal here (i + 1) (kvs ++ [(y, here)]) (wt ++ [y]) := by
  have a : Adj L here y := mem_adj.mp (List.mem_of_getElem? hy)
  refine ⟨h.told.more h.me a n, fun x hx => ?_, h.me.more, fun x z k nx ne az => ?_, fun z hz => ?_⟩
  · rcases List.mem_append.mp hx with hx | hx
    · exact (h.sub x hx).more
    · have : x = y := by simpa using hx
      subst this
      exact known_new
  · have nxy : x ≠ y := fun e => nx (by rw [e]; simp)
    have kx : Known goal kvs x := k.elim .inl fun k => .inr (by
      unfold keys at *
      rw [List.map_append] at k
      rcases List.mem_append.mp k with k | k
      · exact k
      · exact absurd (by simpa using k) nxy)
    exact (h.closed x z kx (fun m => nx (List.mem_append_left _ m)) ne az).more
  · rw [List.take_add_one, hy] at hz
    rcases List.mem_append.mp hz with hz | hz
    · exact (h.part z hz).more
    · have : z = y := by simpa using hz
      subst this
      exact known_new
/-- there is room for one more -/
theorem DIn.room {vs : List Nat} {L : Lanes} (g : Tr vs L) {goal here i y : Nat} {kvs : List (Nat × Nat)} {wt : List Nat} (h : DIn L goal here i kvs wt) (hg : goal ∈ vs) (hy : y ∈ vs) (n : ¬ Known goal kvs y) : kvs.length + 1 < vs.length := by
  have nd : (goal :: y :: keys kvs).Nodup := by
    refine List.nodup_cons.mpr ⟨fun m => ?_, List.nodup_cons.mpr ⟨fun m => n (.inr m), h.told.nd⟩⟩
    rcases List.mem_cons.mp m with e | m
    · exact n (.inl e.symm)
    · obtain ⟨p, hp, e⟩ := List.mem_map.mp m
      obtain ⟨j, hj⟩ := List.getElem?_of_mem hp
      exact (h.told.ord j p.1 p.2 hj).2.1 e
  have := nodup_len nd (m := vs) fun x hx => by
    rcases List.mem_cons.mp hx with e | hx
    · exact e ▸ hg
    · rcases List.mem_cons.mp hx with e | hx
      · exact e ▸ hy
      · obtain ⟨p, hp, e⟩ := List.mem_map.mp hx
        obtain ⟨j, hj⟩ := List.getElem?_of_mem hp
        exact e ▸ (g.ends (h.told.ord j p.1 p.2 hj).1).2
  simp [keys] at this
  omega
theorem DOut.ahead {L : Lanes} {goal : Nat} {kvs : List (Nat × Nat)} (h : DOut L goal kvs []) : Ahead L goal kvs := ⟨h.told, fun x y k a => h.closed x y k (by simp) a⟩

/-! ### the law's search: rows are simple paths -/
structure Br (vs : List Nat) (L : Lanes) (s e : Nat) (rows : List (List Nat)) (at_ : Nat) : Prop where
  le : at_ ≤ rows.length
  one : rows[0]? = some [s]
  paths : ∀ r ∈ rows, ∃ t, t ∈ vs ∧ Path L s t r
  nd : rows.Nodup
  par : ∀ (j : Nat) (r : List Nat), rows[j]? = some r → j ≠ 0 → ∃ (i : Nat) (r0 : List Nat) (z : Nat), i < at_ ∧ rows[i]? = some r0 ∧ r = r0 ++ [z]
  full : ∀ (i : Nat) (r : List Nat) (t z : Nat), i < at_ → rows[i]? = some r → r.getLast? = some t → Adj L t z → z ∉ r → r ++ [z] ∈ rows
  not_ : ∀ (i : Nat) (r : List Nat), i < at_ → rows[i]? = some r → r.getLast? ≠ some e
theorem Br.start {vs : List Nat} {L : Lanes} {s e : Nat} (hs : s ∈ vs) : Br vs L s e [[s]] 0 := by
  refine ⟨Nat.zero_le _, rfl, fun r hr => ⟨s, hs, ?_⟩, by simp, fun j r h n => ?_, fun i r t z h => by omega, fun i r h => by omega⟩
  · rw [List.mem_singleton.mp hr]
    exact ⟨trivial, by simp, rfl, rfl⟩
  · have := (List.getElem?_eq_some_iff.mp h).1
    simp at this
    exact absurd this n
/-- there is always a next row -/
theorem Br.more {vs : List Nat} {L : Lanes} (g : Tr vs L) {s e : Nat} {rows : List (List Nat)} {at_ : Nat} (B : Br vs L s e rows at_) (hs : s ∈ vs) (he : e ∈ vs) : at_ < rows.length := by
  refine Nat.lt_of_not_le fun hle => ?_
  have ha : at_ = rows.length := Nat.le_antisymm B.le hle
  obtain ⟨p, P, _⟩ := g.conn hs he
  -- all beginnings of p are rows
  have f : ∀ (q w : List Nat), p = q ++ w → q ≠ [] → q ∈ rows := by
    intro q
    induction hq : q.length generalizing q with
    | zero => intro w _ n; exact absurd (List.length_eq_zero_iff.mp hq) n
    | succ k ih =>
      intro w e n
      cases k with
      | zero =>
        match q, hq with
        | [x], _ =>
          have := P.hd
          rw [e] at this
          have : x = s := Option.some.inj this
          subst this
          exact List.mem_of_getElem? B.one
      | succ k =>
        have hq0 : q = q.dropLast ++ [q.getLast n] := (List.dropLast_concat_getLast n).symm
        have l0 : q.dropLast.length = k + 1 := by rw [List.length_dropLast, hq]; rfl
        have n0 : q.dropLast ≠ [] := fun z => by rw [z] at l0; cases l0
        have e2 : p = q.dropLast ++ ([q.getLast n] ++ w) := by
          rw [e]
          conv => lhs; rw [hq0]
          rw [List.append_assoc]
        have m0 := ih q.dropLast l0 ([q.getLast n] ++ w) e2 n0
        obtain ⟨i, hi⟩ := List.getElem?_of_mem m0
        have hi2 := (List.getElem?_eq_some_iff.mp hi).1
        have hl : q.dropLast.getLast? = some (q.dropLast.getLast n0) := List.getLast?_eq_some_getLast n0
        rw [hq0]
        refine B.full i _ _ _ (by omega) hi hl ?_ ?_
        · have c := P.ch
          rw [e2] at c
          have c : Chain L (q.dropLast ++ ([q.getLast n] ++ w)) := c
          have key : ∀ (u : List Nat) (t z : Nat) (w : List Nat), Chain L (u ++ (z :: w)) → u.getLast? = some t → Adj L t z := by
            intro u
            induction u with
            | nil => intro t z w _ h; cases h
            | cons a u ih2 =>
              intro t z w c h
              cases u with
              | nil =>
                have : a = t := Option.some.inj h
                subst this
                exact c.1
              | cons b u => exact ih2 t z w c.2 (by rw [List.getLast?_cons_cons] at h; exact h)
          exact key _ _ _ w c hl
        · have nd := P.nd
          rw [e2] at nd
          intro m
          exact (List.nodup_append.mp nd).2.2 _ m _ (by simp) rfl
  have hp : p ∈ rows := f p [] (by simp) (fun z => by have := P.hd; rw [z] at this; cases this)
  obtain ⟨i, hi⟩ := List.getElem?_of_mem hp
  exact B.not_ i p (by rw [ha]; exact (List.getElem?_eq_some_iff.mp hi).1) hi P.lt
/-- at most one row a place -/
theorem Br.len {vs : List Nat} {L : Lanes} (g : Tr vs L) {s e : Nat} {rows : List (List Nat)} {at_ : Nat} (B : Br vs L s e rows at_) : rows.length ≤ vs.length := by
  have f : ∀ (rows : List (List Nat)), (∀ r ∈ rows, ∃ t, t ∈ vs ∧ Path L s t r) → rows.Nodup → ∃ ts : List Nat, ts.length = rows.length ∧ ts.Nodup ∧ (∀ t ∈ ts, t ∈ vs) ∧ ∀ t ∈ ts, ∃ r ∈ rows, Path L s t r := by
    intro rows
    induction rows with
    | nil => intro _ _; exact ⟨[], rfl, List.nodup_nil, by simp, by simp⟩
    | cons r rows ih =>
      intro h nd
      obtain ⟨n1, n2⟩ := List.nodup_cons.mp nd
      obtain ⟨ts, h1, h2, h3, h4⟩ := ih (fun r hr => h r (List.mem_cons_of_mem _ hr)) n2
      obtain ⟨t, ht, P⟩ := h r List.mem_cons_self
      refine ⟨t :: ts, by simp [h1], List.nodup_cons.mpr ⟨fun m => ?_, h2⟩, fun x hx => ?_, fun x hx => ?_⟩
      · obtain ⟨r', hr', P'⟩ := h4 t m
        exact n1 (g.unique P P' ▸ hr')
      · rcases List.mem_cons.mp hx with e | hx
        · exact e ▸ ht
        · exact h3 x hx
      · rcases List.mem_cons.mp hx with e | hx
        · subst e; exact ⟨r, List.mem_cons_self, P⟩
        · obtain ⟨r', hr', P'⟩ := h4 x hx
          exact ⟨r', List.mem_cons_of_mem _ hr', P'⟩
  obtain ⟨ts, h1, h2, h3, _⟩ := f rows B.paths B.nd
  rw [← h1]
  exact nodup_len h2 h3
theorem Br.step {vs : List Nat} {L : Lanes} (g : Tr vs L) {s e t : Nat} {rows : List (List Nat)} {at_ : Nat} {r : List Nat} (B : Br vs L s e rows at_) (hr : rows[at_]? = some r) (ht : r.getLast? = some t) (ne : t ≠ e) :
    Br vs L s e (rows ++ (((adj L t).filter fun z => !decide (z ∈ r)).map fun z => r ++ [z])) (at_ + 1) := by
  have hlt := (List.getElem?_eq_some_iff.mp hr).1
  obtain ⟨t', ht', P⟩ := B.paths r (List.mem_of_getElem? hr)
  have : t' = t := Option.some.inj (P.lt.symm.trans ht)
  subst this
  have hz : ∀ {z}, z ∈ (adj L t').filter (fun z => !decide (z ∈ r)) → Adj L t' z ∧ z ∉ r := fun {z} h => by
    have := List.mem_filter.mp h
    exact ⟨mem_adj.mp this.1, by simpa using this.2⟩
  have newP : ∀ {z}, Adj L t' z → z ∉ r → z ∈ vs ∧ Path L s z (r ++ [z]) := fun {z} a n => by
    refine ⟨(g.ends a).2, P.ch.snoc ht a, List.nodup_append.mpr ⟨P.nd, by simp, fun x hx y hy e => by
      have : y = z := by simpa using hy
      subst this; subst e; exact n hx⟩, ?_, by simp⟩
    cases r with
    | nil => exact absurd P.hd (by simp)
    | cons x r => exact P.hd
  have old : ∀ {z}, Adj L t' z → z ∉ r → r ++ [z] ∉ rows := fun {z} a n m => by
    obtain ⟨j, hj⟩ := List.getElem?_of_mem m
    have j0 : j ≠ 0 := fun e0 => by
      rw [e0, B.one] at hj
      have := Option.some.inj hj
      have l := congrArg List.length this
      simp at l
      have := P.hd
      rw [l] at this
      cases this
    obtain ⟨i, r0, z', hi, hi2, e'⟩ := B.par j _ hj j0
    have e2 : r = r0 := (List.append_inj' e' rfl).1
    have : i = at_ := nodup_ix B.nd hi2 (e2 ▸ hr)
    omega
  refine ⟨?_, ?_, fun q hq => ?_, ?_, fun j q hq j0 => ?_, fun i q t2 z hi hq hl a n => ?_, fun i q hi hq => ?_⟩
  · rw [List.length_append]; omega
  · rw [List.getElem?_append_left (by omega)]; exact B.one
  · rcases List.mem_append.mp hq with hq | hq
    · exact B.paths q hq
    · obtain ⟨z, hz2, e2⟩ := List.mem_map.mp hq
      subst e2
      obtain ⟨a, n⟩ := hz hz2
      exact ⟨z, (newP a n).1, (newP a n).2⟩
  · refine List.nodup_append.mpr ⟨B.nd, ?_, fun x hx y hy e2 => ?_⟩
    · refine List.pairwise_map.mpr ?_
      exact ((g.adj_nodup t').filter _).imp fun h e2 => h (by
        have := (List.append_inj' e2 rfl).2
        simpa using this)
    · obtain ⟨z, hz2, e3⟩ := List.mem_map.mp hy
      subst e2
      subst e3
      obtain ⟨a, n⟩ := hz hz2
      exact old a n hx
  · by_cases hj : j < rows.length
    · rw [List.getElem?_append_left hj] at hq
      obtain ⟨i, r0, z, hi, hi2, e2⟩ := B.par j q hq j0
      exact ⟨i, r0, z, by omega, by rw [List.getElem?_append_left (by omega)]; exact hi2, e2⟩
    · rw [List.getElem?_append_right (by omega)] at hq
      obtain ⟨z, hz2, e2⟩ := List.mem_map.mp (List.mem_of_getElem? hq)
      exact ⟨at_, r, z, by omega, by rw [List.getElem?_append_left hlt]; exact hr, e2.symm⟩
  · rw [List.getElem?_append_left (by omega)] at hq
    by_cases hi2 : i = at_
    · subst hi2
      have : q = r := Option.some.inj (hq.symm.trans hr)
      subst this
      have : t2 = t' := Option.some.inj (hl.symm.trans ht)
      subst this
      exact List.mem_append_right _ (List.mem_map.mpr ⟨z, List.mem_filter.mpr ⟨mem_adj.mpr a, by simp [n]⟩, rfl⟩)
    · exact List.mem_append_left _ (B.full i q t2 z (by omega) hq hl a n)
  · rw [List.getElem?_append_left (by omega)] at hq
    by_cases hi2 : i = at_
    · subst hi2
      have : q = r := Option.some.inj (hq.symm.trans hr)
      subst this
      rw [ht]
      exact fun z => ne (Option.some.inj z)
    · exact B.not_ i q (by omega) hq
end TM
set_option linter.all false
/-! lanes told otherwise, yards and gates. Plain Lean. -/
namespace TM
theorem nb_perm {L M : Lanes} (h : L.Perm M) (i : Nat) : (nb L i).Perm (nb M i) := by
  unfold nb out inn
  exact ((h.filter _).map _).append ((h.filter _).map _)
def norm1 (p : Nat × Nat) : Nat × Nat := (min p.1 p.2, max p.1 p.2)
def norm (L : Lanes) : Lanes := L.map norm1
theorem nbP_norm : ∀ (L : Lanes) (i : Nat), (nbP (norm L) i).Perm (nbP L i)
  | [], _ => List.Perm.refl _
  | (a, b) :: L, i => by
    have ih := nbP_norm L i
    show (nbP (norm1 (a, b) :: norm L) i).Perm _
    by_cases h : a ≤ b
    · have e : norm1 (a, b) = (a, b) := by simp [norm1, Nat.min_eq_left h, Nat.max_eq_right h]
      rw [e]
      unfold nbP
      exact (ih.append_left _).append_left _
    · have h' : b ≤ a := by omega
      have e : norm1 (a, b) = (b, a) := by simp [norm1, Nat.min_eq_right h', Nat.max_eq_left h']
      rw [e]
      unfold nbP
      rw [← List.append_assoc, ← List.append_assoc]
      exact List.Perm.append List.perm_append_comm ih
theorem nb_norm (L : Lanes) (i : Nat) : (nb (norm L) i).Perm (nb L i) := (nbP_perm _ i).symm.trans ((nbP_norm L i).trans (nbP_perm L i))
theorem adj_of {L M : Lanes} (h : ∀ i, (nb L i).Perm (nb M i)) : adj L = adj M := funext fun i => isort_congr (h i)
def yardsL (L : Lanes) : List Nat := (List.range (L.length + 1)).filter fun i => decide (1 < (adj L i).length)
def gatesL (L : Lanes) : List Nat := (List.range (L.length + 1)).filter fun i => decide ((adj L i).length = 1)
/-- lanes of a country -/
structure Good (vs : List Nat) (L : Lanes) : Prop where
  tr : Tr vs L
  vs_ : ∀ v, v ∈ vs ↔ v < L.length + 1
  deg : ∀ i, (adj L i).length ≤ 4
  least : 1 ≤ (yardsL L).length
  most : (yardsL L).length ≤ 7
  small : L.length ≤ 1000
theorem Good.bound {vs : List Nat} {L : Lanes} (g : Good vs L) : ∀ p ∈ L, p.1 ≤ L.length ∧ p.2 ≤ L.length := fun p hp => by
  have a : Adj L p.1 p.2 := .inl hp
  have h1 := (g.vs_ _).mp (g.tr.ends a).1
  have h2 := (g.vs_ _).mp (g.tr.ends a).2
  exact ⟨by omega, by omega⟩
theorem Tr.same {vs : List Nat} {L M : Lanes} (g : Tr vs L) (h : ∀ i, (nb M i).Perm (nb L i)) (hl : M.length = L.length) : Tr vs M where
  ends := fun a => g.ends ((nb_adj h).mp a)
  irrefl := fun a => g.irrefl ((nb_adj h).mp a)
  unique := fun P Q => g.unique (P.to (nb_adj h).mp) (Q.to (nb_adj h).mp)
  conn := fun hs ht => by
    obtain ⟨p, P, k⟩ := g.conn hs ht
    exact ⟨p, P.to (nb_adj h).mpr, k⟩
  nbnd := fun i => (h i).nodup_iff.mpr (g.nbnd i)
  length := by rw [hl, g.length]
  nodup := g.nodup
theorem yards_of {L M : Lanes} (h : ∀ i, (nb M i).Perm (nb L i)) (hl : M.length = L.length) : yardsL M = yardsL L := by
  unfold yardsL
  rw [adj_of h, hl]
theorem gates_of {L M : Lanes} (h : ∀ i, (nb M i).Perm (nb L i)) (hl : M.length = L.length) : gatesL M = gatesL L := by
  unfold gatesL
  rw [adj_of h, hl]
theorem Good.same {vs : List Nat} {L M : Lanes} (g : Good vs L) (h : ∀ i, (nb M i).Perm (nb L i)) (hl : M.length = L.length) : Good vs M where
  tr := g.tr.same h hl
  vs_ := fun v => by rw [hl]; exact g.vs_ v
  deg := fun i => by rw [adj_of h]; exact g.deg i
  least := by rw [yards_of h hl]; exact g.least
  most := by rw [yards_of h hl]; exact g.most
  small := by rw [hl]; exact g.small
theorem Ahead.same {L M : Lanes} (h : ∀ {a b : Nat}, Adj M a b ↔ Adj L a b) {goal : Nat} {kvs : List (Nat × Nat)} (A : Ahead M goal kvs) : Ahead L goal kvs :=
  ⟨⟨A.nd, fun i k hh e => ⟨h.mp (A.ord i k hh e).1, (A.ord i k hh e).2⟩⟩, fun x y k a => A.closed x y k (h.mpr a)⟩
theorem Good.zero {vs : List Nat} {L : Lanes} (g : Good vs L) : 0 ∈ vs := (g.vs_ 0).mpr (by omega)
/-- all but the goal are told -/
theorem Ahead.count {vs : List Nat} {L : Lanes} (g : Tr vs L) {goal : Nat} {kvs : List (Nat × Nat)} (A : Ahead L goal kvs) (hg : goal ∈ vs) : kvs.length = L.length := by
  have h1 : (goal :: keys kvs).length ≤ vs.length := by
    refine nodup_len (List.nodup_cons.mpr ⟨fun m => ?_, A.nd⟩) fun x hx => ?_
    · obtain ⟨p, hp, e⟩ := List.mem_map.mp m
      obtain ⟨j, hj⟩ := List.getElem?_of_mem hp
      exact (A.ord j p.1 p.2 hj).2.1 e
    · rcases List.mem_cons.mp hx with e | hx
      · exact e ▸ hg
      · obtain ⟨p, hp, e⟩ := List.mem_map.mp hx
        obtain ⟨j, hj⟩ := List.getElem?_of_mem hp
        exact e ▸ (g.ends (A.ord j p.1 p.2 hj).1).2
  have h2 : vs.length ≤ (goal :: keys kvs).length := nodup_len g.nodup fun x hx => by
    rcases A.all g hg hx with e | m
    · exact e ▸ List.mem_cons_self
    · exact List.mem_cons_of_mem _ m
  have := g.length
  simp [keys] at h1 h2
  omega
theorem mem_yards {L : Lanes} {u : Nat} : u ∈ yardsL L ↔ u < L.length + 1 ∧ 1 < (nb L u).length := by
  unfold yardsL
  rw [List.mem_filter, List.mem_range, adj_length]
  simp
theorem yards_nodup (L : Lanes) : (yardsL L).Nodup := List.nodup_range.filter _
theorem yards_sorted (L : Lanes) : (yardsL L).Pairwise (· ≤ ·) := by
  have h : (List.range (L.length + 1)).Pairwise (· ≤ ·) := (List.pairwise_lt_range).imp fun h => Nat.le_of_lt h
  exact h.filter _
end TM
set_option linter.all false
/-! trees drawn vertex by vertex, their numbers mixed. Plain Lean. -/
namespace TM
def deg (L : Lanes) (i : Nat) : Nat := (nb L i).length
theorem deg_P (L : Lanes) (i : Nat) : deg L i = (nbP L i).length := (nbP_perm L i).length_eq.symm
theorem deg_snoc (L : Lanes) (a b i : Nat) : deg (L ++ [(a, b)]) i = deg L i + ((if a = i then 1 else 0) + (if b = i then 1 else 0)) := by
  rw [deg_P, deg_P, nbP_snoc, List.length_append, List.length_append]
  congr 1
  split <;> split <;> simp
theorem deg_reverse (L : Lanes) (i : Nat) : deg L.reverse i = deg L i := (nb_perm (List.reverse_perm L) i).length_eq
theorem deg_none {vs : List Nat} {L : Lanes} (g : Grow vs L) {i : Nat} (h : i ∉ vs) : deg L i = 0 := by
  unfold deg
  cases e : nb L i with
  | nil => rfl
  | cons x r =>
    have : x ∈ nb L i := by rw [e]; exact List.mem_cons_self
    exact absurd (g.ends (mem_nb.mp this)).1 h
/-- places 0 .. i, lanes in the sequence in which they came -/
def Drawn (n : Nat) (L : Lanes) : Prop := Grow (List.range n).reverse L.reverse
theorem Drawn.start : Drawn 1 [] := Grow.one 0
theorem Drawn.more {n o : Nat} {L : Lanes} (d : Drawn n L) (ho : o < n) : Drawn (n + 1) (L ++ [(o, n)]) := by
  unfold Drawn
  rw [List.range_succ, List.reverse_append, List.reverse_append]
  exact Grow.step d (by simp [ho]) (by simp)
theorem Drawn.len {n : Nat} {L : Lanes} (d : Drawn n L) : n = L.length + 1 := by
  have := Grow.length d
  simpa using this
theorem Drawn.zero {n i : Nat} {L : Lanes} (d : Drawn n L) (h : n ≤ i) : deg L i = 0 := by
  rw [← deg_reverse]
  exact deg_none d (by simp; omega)
/-- the degrees that a drawn country ends with -/
structure Done (y : Nat) (L : Lanes) : Prop where
  dr : Drawn (L.length + 1) L
  yd : ∀ j, j < y → 2 ≤ deg L j ∧ deg L j ≤ 4
  gt : ∀ j, y ≤ j → deg L j ≤ 1
  y1 : 1 ≤ y
  y7 : y ≤ 7
  yn : y ≤ L.length + 1
  small : L.length ≤ 100
/-! ### other numbers -/
def ren (f : Nat → Nat) (L : Lanes) : Lanes := L.map fun p => (f p.1, f p.2)
theorem Grow.ren {vs : List Nat} {L : Lanes} (g : Grow vs L) {f : Nat → Nat} (inj : ∀ a ∈ vs, ∀ b ∈ vs, f a = f b → a = b) : Grow (vs.map f) (TM.ren f L) := by
  induction g with
  | one v => exact Grow.one _
  | @step vs L a b g ha hb ih =>
    refine Grow.step (ih fun x hx y hy => inj x (List.mem_cons_of_mem _ hx) y (List.mem_cons_of_mem _ hy)) (List.mem_map.mpr ⟨a, ha, rfl⟩) fun m => ?_
    obtain ⟨c, hc, e⟩ := List.mem_map.mp m
    have := inj c (List.mem_cons_of_mem _ hc) b List.mem_cons_self e
    exact hb (this ▸ hc)
theorem nb_ren {vs : List Nat} {L : Lanes} {f : Nat → Nat} (ends : ∀ p ∈ L, p.1 ∈ vs ∧ p.2 ∈ vs) (inj : ∀ a ∈ vs, ∀ b ∈ vs, f a = f b → a = b) {i : Nat} (hi : i ∈ vs) : nb (ren f L) (f i) = (nb L i).map f := by
  have h : ∀ (g1 g2 : Nat × Nat → Nat), (∀ p ∈ L, g1 p ∈ vs) → ∀ M : Lanes, (∀ p ∈ M, p ∈ L) → ((M.map fun p => (f (g1 p), f (g2 p))).filter fun q => decide (q.1 = f i)).map (·.2) = ((M.filter fun p => decide (g1 p = i)).map g2).map f := by
    intro g1 g2 hg M
    induction M with
    | nil => intro _; rfl
    | cons p M ih =>
      intro hM
      have ih := ih fun q hq => hM q (List.mem_cons_of_mem _ hq)
      have hp := hg p (hM p List.mem_cons_self)
      simp only [List.map_cons, List.filter_cons]
      by_cases c : g1 p = i
      · simp only [c, decide_true, if_true, List.map_cons, ih]
      · have c2 : ¬ f (g1 p) = f i := fun e => c (inj _ hp _ hi e)
        simp only [c, c2, decide_false, Bool.false_eq_true, if_false, ih]
  unfold nb out inn ren
  rw [List.map_append]
  congr 1
  · exact h (·.1) (·.2) (fun p hp => (ends p hp).1) L fun _ h => h
  · have := h (·.2) (·.1) (fun p hp => (ends p hp).2) L fun _ h => h
    rw [← this]
    rw [List.filter_map, List.filter_map, List.map_map, List.map_map]
    rfl
/-- numbers mixed: a list of all places, each once -/
structure Mixed (n : Nat) (ps : List Nat) : Prop where
  len : ps.length = n
  perm : ps.Perm (List.range n)
theorem Mixed.lt {n : Nat} {ps : List Nat} (m : Mixed n ps) {x : Nat} (h : x ∈ ps) : x < n := List.mem_range.mp (m.perm.mem_iff.mp h)
theorem Mixed.nd {n : Nat} {ps : List Nat} (m : Mixed n ps) : ps.Nodup := m.perm.nodup_iff.mpr List.nodup_range
theorem getD_at {l : List Nat} {i : Nat} (h : i < l.length) : l[i]? = some (l.getD i 0) := by
  rw [List.getD_eq_getElem?_getD, List.getElem?_eq_getElem h]
  rfl
theorem Mixed.inj {n : Nat} {ps : List Nat} (m : Mixed n ps) {a b : Nat} (ha : a < n) (hb : b < n) (e : ps.getD a 0 = ps.getD b 0) : a = b :=
  nodup_ix m.nd (getD_at (by rw [m.len]; exact ha)) (by rw [e]; exact getD_at (by rw [m.len]; exact hb))
theorem Mixed.map {n : Nat} {ps : List Nat} (m : Mixed n ps) : (List.range n).map (fun i => ps.getD i 0) = ps := by
  rw [← m.len]
  refine List.ext_getElem (by simp) fun i h1 h2 => ?_
  rw [List.getElem_map, List.getElem_range, List.getD_eq_getElem?_getD, List.getElem?_eq_getElem h2]
  rfl
/-- THE DRAWN LANES ARE THOSE OF A COUNTRY -/
theorem Done.good {y : Nat} {L : Lanes} {ps : List Nat} (D : Done y L) (m : Mixed (L.length + 1) ps) : ∃ vs, Good vs (ren (fun i => ps.getD i 0) L) := by
  let f : Nat → Nat := fun i => ps.getD i 0
  have inj : ∀ a ∈ (List.range (L.length + 1)).reverse, ∀ b ∈ (List.range (L.length + 1)).reverse, f a = f b → a = b := fun a ha b hb e => m.inj (by simpa using ha) (by simpa using hb) e
  have ends : ∀ p ∈ L, p.1 ∈ (List.range (L.length + 1)).reverse ∧ p.2 ∈ (List.range (L.length + 1)).reverse := fun p hp => Grow.ends D.dr (.inl (List.mem_reverse.mpr hp))
  have G := Grow.ren D.dr (f := f) inj
  have er : ren f L.reverse = (ren f L).reverse := by unfold ren; rw [List.map_reverse]
  rw [er] at G
  have len : (ren f L).length = L.length := by unfold ren; rw [List.length_map]
  have T : Tr ((List.range (L.length + 1)).reverse.map f) (ren f L) := G.tr (nb_perm (List.reverse_perm _).symm) (by rw [List.length_reverse])
  have fmem : ∀ v, v ∈ (List.range (L.length + 1)).reverse.map f ↔ v < L.length + 1 := fun v => by
    rw [List.map_reverse, List.mem_reverse]
    have : (List.range (L.length + 1)).map f = ps := m.map
    rw [this, m.perm.mem_iff, List.mem_range]
  have dg : ∀ i, i < L.length + 1 → (adj (ren f L) (f i)).length = deg L i := fun i hi => by
    rw [adj_length, nb_ren ends inj (by simpa using hi), List.length_map]
    rfl
  have yp : (yardsL (ren f L)).Perm ((List.range y).map f) := by
    have n1 := yards_nodup (ren f L)
    have n2 : ((List.range y).map f).Nodup := List.pairwise_map.mpr (List.Pairwise.imp_of_mem (fun {a b} ha hb h e => h (m.inj (by have := List.mem_range.mp ha; have := D.yn; omega) (by have := List.mem_range.mp hb; have := D.yn; omega) e)) List.nodup_range)
    refine (List.perm_ext_iff_of_nodup n1 n2).mpr fun u => ?_
    rw [mem_yards, len]
    constructor
    · rintro ⟨h1, h2⟩
      obtain ⟨i, hi, e⟩ := List.mem_map.mp ((fmem u).mpr h1)
      have hi : i < L.length + 1 := by simpa using hi
      refine List.mem_map.mpr ⟨i, List.mem_range.mpr ?_, e⟩
      refine Nat.lt_of_not_le fun hle => ?_
      have h3 := D.gt i hle
      have h4 := dg i hi
      rw [adj_length] at h4
      rw [← e] at h2
      omega
    · intro h
      obtain ⟨i, hi, e⟩ := List.mem_map.mp h
      have hi := List.mem_range.mp hi
      have hi2 : i < L.length + 1 := Nat.lt_of_lt_of_le hi D.yn
      have h4 := dg i hi2
      rw [adj_length] at h4
      refine ⟨?_, ?_⟩
      · rw [← e]
        exact (fmem _).mp (List.mem_map.mpr ⟨i, by simpa using hi2, rfl⟩)
      · rw [← e, h4]
        exact (D.yd i hi).1
  have yl : (yardsL (ren f L)).length = y := by rw [yp.length_eq, List.length_map, List.length_range]
  refine ⟨_, T, fun v => by rw [len]; exact fmem v, fun i => ?_, by rw [yl]; exact D.y1, by rw [yl]; exact D.y7, by rw [len]; have := D.small; omega⟩
  by_cases hi : i < L.length + 1
  · obtain ⟨j, hj, e⟩ := List.mem_map.mp ((fmem i).mpr hi)
    have hj : j < L.length + 1 := by simpa using hj
    rw [← e, dg j hj]
    by_cases c : j < y
    · exact (D.yd j c).2
    · have := D.gt j (by omega)
      omega
  · rw [adj_length]
    cases e : nb (ren f L) i with
    | nil => simp
    | cons x r =>
      have : x ∈ nb (ren f L) i := by rw [e]; exact List.mem_cons_self
      exact absurd ((fmem i).mp (T.ends (mem_nb.mp this)).1) hi
end TM
set_option linter.all false
/-! what lies behind a yard, by its other neighbours. Plain Lean. -/
namespace TM
section
variable {vs : List Nat} {L : Lanes} {N : Nat → Nat → Nat}
def bh (L : Lanes) (N : Nat → Nat → Nat) (y t : Nat) : List Nat := (yardsL L).filter (beh N y t)
theorem mem_bh {y t u : Nat} : u ∈ bh L N y t ↔ u ∈ yardsL L ∧ beh N y t u = true := List.mem_filter
theorem yard_vs (G : Good vs L) {u : Nat} (h : u ∈ yardsL L) : u ∈ vs := (G.vs_ u).mpr (mem_yards.mp h).1
theorem adj_vs (G : Good vs L) {u t : Nat} (h : t ∈ adj L u) : t ∈ vs := (G.tr.ends (mem_adj.mp h)).2
/-- of a gate all -/
theorem bh_gate (G : Good vs L) (I : IsNext vs L N) {y t : Nat} (hy : y ∈ yardsL L) (ht : t ∈ adj L y) (n : t ∉ yardsL L) : bh L N y t = yardsL L := by
  refine List.filter_eq_self.mpr fun u hu => ?_
  unfold beh
  by_cases e : u = y
  · simp [e]
  · have q := next_yard G.tr I (yard_vs G hu) (yard_vs G hy) e (mem_yards.mp hu).2
    have : ¬ N u y = t := fun z => n (mem_yards.mpr ⟨(G.vs_ t).mp (adj_vs G ht), z ▸ q.2⟩)
    simp [this]
/-- both sides: all, none twice -/
theorem bh_both (G : Good vs L) (I : IsNext vs L N) {y t : Nat} (ht : t ∈ adj L y) : isort (bh L N y t ++ bh L N t y) = yardsL L := by
  have e : bh L N t y = (yardsL L).filter fun u => !beh N y t u := by
    unfold bh
    exact List.filter_congr fun u hu => beh_other G.tr I (yard_vs G hu) (mem_adj.mp ht)
  rw [e]
  refine (isort_eq ?_ (yards_sorted L)).symm
  exact (List.filter_append_perm _ _).symm
def fnd (L : Lanes) (N : Nat → Nat → Nat) (y t : Nat) : List Nat → List Nat
  | [] => []
  | o :: os => (if o ≠ t ∧ o ∈ yardsL L then bh L N o y else []) ++ fnd L N y t os
theorem fnd_snoc (y t o : Nat) : ∀ os : List Nat, fnd L N y t (os ++ [o]) = fnd L N y t os ++ (if o ≠ t ∧ o ∈ yardsL L then bh L N o y else [])
  | [] => by simp [fnd]
  | a :: os => by
    show _ ++ fnd L N y t (os ++ [o]) = (_ ++ _) ++ _
    rw [fnd_snoc y t o os, List.append_assoc]
theorem mem_fnd {y t u : Nat} : ∀ {os : List Nat}, u ∈ fnd L N y t os ↔ ∃ o ∈ os, o ≠ t ∧ o ∈ yardsL L ∧ u ∈ bh L N o y
  | [] => by simp [fnd]
  | a :: os => by
    have ih := mem_fnd (y := y) (t := t) (u := u) (os := os)
    unfold fnd
    rw [List.mem_append, ih]
    constructor
    · rintro (h | ⟨o, h1, h2⟩)
      · split at h
        · rename_i c
          exact ⟨a, List.mem_cons_self, c.1, c.2, h⟩
        · cases h
      · exact ⟨o, List.mem_cons_of_mem _ h1, h2⟩
    · rintro ⟨o, h1, h2, h3, h4⟩
      rcases List.mem_cons.mp h1 with e | h1
      · subst e
        left
        rw [if_pos ⟨h2, h3⟩]
        exact h4
      · exact .inr ⟨o, h1, h2, h3, h4⟩
theorem bh_nodup (y t : Nat) : (bh L N y t).Nodup := (yards_nodup L).filter _
theorem bh_len (G : Good vs L) (y t : Nat) : (bh L N y t).length ≤ 7 := Nat.le_trans (List.length_filter_le _ _) G.most
theorem fnd_len (G : Good vs L) (y t : Nat) : ∀ os : List Nat, (fnd L N y t os).length ≤ 7 * os.length
  | [] => by simp [fnd]
  | a :: os => by
    have ih := fnd_len G y t os
    have h := bh_len G a y (N := N)
    unfold fnd
    rw [List.length_append, List.length_cons]
    split <;> simp <;> omega
theorem fnd_nodup (G : Good vs L) (I : IsNext vs L N) {y t : Nat} : ∀ {os : List Nat}, os.Nodup → (∀ o ∈ os, o ∈ adj L y) → (fnd L N y t os).Nodup
  | [], _, _ => by simp [fnd]
  | a :: os, nd, ad => by
    have ih := fnd_nodup G I (t := t) (List.nodup_cons.mp nd).2 fun o ho => ad o (List.mem_cons_of_mem _ ho)
    unfold fnd
    split
    · refine List.nodup_append.mpr ⟨bh_nodup _ _, ih, fun u hu v hv e => ?_⟩
      subst e
      obtain ⟨o, h1, h2, h3, h4⟩ := mem_fnd.mp hv
      have q1 := (beh_nb G.tr I (yard_vs G (mem_bh.mp hu).1) (mem_adj.mp (ad a List.mem_cons_self))).mp (mem_bh.mp hu).2
      have q2 := (beh_nb G.tr I (yard_vs G (mem_bh.mp hu).1) (mem_adj.mp (ad o (List.mem_cons_of_mem _ h1)))).mp (mem_bh.mp h4).2
      exact (List.nodup_cons.mp nd).1 ((q1.2.symm.trans q2.2) ▸ h1)
    · exact ih
theorem fnd_all (G : Good vs L) (I : IsNext vs L N) {y t : Nat} (hy : y ∈ yardsL L) (ht : t ∈ adj L y) : isort (y :: fnd L N y t (adj L y)) = bh L N y t := by
  refine (isort_eq ?_ ((yards_sorted L).filter _)).symm
  have nd : (y :: fnd L N y t (adj L y)).Nodup := by
    refine List.nodup_cons.mpr ⟨fun h => ?_, fnd_nodup G I (G.tr.adj_nodup y) fun _ h => h⟩
    obtain ⟨o, h1, h2, h3, h4⟩ := mem_fnd.mp h
    exact ((beh_nb G.tr I (yard_vs G hy) (mem_adj.mp h1)).mp (mem_bh.mp h4).2).1 rfl
  refine (List.perm_ext_iff_of_nodup (bh_nodup _ _) nd).mpr fun u => ?_
  constructor
  · intro h
    obtain ⟨h1, h2⟩ := mem_bh.mp h
    by_cases e : u = y
    · subst e
      exact List.mem_cons_self
    · refine List.mem_cons_of_mem _ (mem_fnd.mpr ?_)
      have q := next_yard G.tr I (yard_vs G h1) (yard_vs G hy) e (mem_yards.mp h1).2
      unfold beh at h2
      have nt : N u y ≠ t := by simpa [e] using h2
      have ho : N u y ∈ adj L y := mem_adj.mpr q.1
      exact ⟨N u y, ho, nt, mem_yards.mpr ⟨(G.vs_ _).mp (adj_vs G ho), q.2⟩, mem_bh.mpr ⟨h1, (beh_nb G.tr I (yard_vs G h1) q.1).mpr ⟨e, rfl⟩⟩⟩
  · intro h
    rcases List.mem_cons.mp h with e | h
    · subst e
      exact mem_bh.mpr ⟨hy, by simp [beh]⟩
    · obtain ⟨o, h1, h2, h3, h4⟩ := mem_fnd.mp h
      obtain ⟨k1, k2⟩ := mem_bh.mp h4
      have q := (beh_nb G.tr I (yard_vs G k1) (mem_adj.mp h1)).mp k2
      refine mem_bh.mpr ⟨k1, ?_⟩
      unfold beh
      have : ¬ N u y = t := fun z => h2 (q.2.symm.trans z)
      simp [this]
/-- there is a word of the next places -/
theorem next_is (G : Tr vs L) : ∃ N, IsNext vs L N := by
  classical
  refine ⟨fun g p => if h : ∃ x r, Path L p g (p :: x :: r) then h.choose else 0, fun g p hg hp n => ?_⟩
  have h : ∃ x r, Path L p g (p :: x :: r) := by
    obtain ⟨w, P, _⟩ := G.conn hp hg
    cases w with
    | nil => have := P.hd; cases this
    | cons a w =>
      have e : a = p := Option.some.inj P.hd
      subst e
      cases w with
      | nil => exact absurd (Option.some.inj P.lt) n
      | cons x r => exact ⟨x, r, P⟩
  show ∃ r, Path L p g (p :: (if h : ∃ x r, Path L p g (p :: x :: r) then h.choose else 0) :: r)
  rw [dif_pos h]
  exact h.choose_spec
end
end TM
set_option linter.all false
/-! three places of a tree: where their ways meet. Plain Lean. -/
namespace TM
section
variable {vs : List Nat} {L : Lanes}
theorem Chain.app : ∀ {p : List Nat} {c : Nat} {q : List Nat}, Chain L (p ++ [c]) → Chain L (c :: q) → Chain L (p ++ c :: q)
  | [], _, _, _, h => h
  | [x], _, _, h1, h2 => ⟨h1.1, h2⟩
  | x :: y :: p, c, q, h1, h2 => ⟨h1.1, Chain.app (p := y :: p) h1.2 h2⟩
/-- the first of a list that holds -/
theorem first_of {α : Type} (f : α → Prop) : ∀ {l : List α} {m : α}, m ∈ l → f m → ∃ D c B, l = D ++ c :: B ∧ f c ∧ ∀ x ∈ D, ¬ f x
  | a :: l, m, h, hm => by
    by_cases k : f a
    · exact ⟨[], a, l, rfl, k, fun _ h => nomatch h⟩
    · rcases List.mem_cons.mp h with e | h
      · exact absurd (e ▸ hm) k
      · obtain ⟨D, c, B, e, hc, n⟩ := first_of f h hm
        refine ⟨a :: D, c, B, by rw [e]; rfl, hc, fun x hx => ?_⟩
        rcases List.mem_cons.mp hx with e | hx
        · exact e ▸ k
        · exact n x hx
theorem Path.cut {s t : Nat} {D B : List Nat} {c : Nat} (P : Path L s t (D ++ c :: B)) : Path L s c (D ++ [c]) ∧ Path L c t (c :: B) := by
  have e : D ++ c :: B = (D ++ [c]) ++ B := by simp
  refine ⟨⟨(e ▸ P.ch).left, ?_, ?_, by simp⟩, ⟨P.ch.right, (List.nodup_append.mp P.nd).2.1, rfl, ?_⟩⟩
  · have := P.nd
    rw [e] at this
    exact (List.nodup_append.mp this).1
  · have := P.hd
    cases D with
    | nil => exact this
    | cons a D => exact this
  · have := P.lt
    rw [List.getLast?_append] at this
    cases q : (c :: B).getLast? with
    | none => simp at q
    | some z => rw [q] at this; exact this
structure Meet (o m t : Nat) (P Q R : List Nat) (c : Nat) (a b d : Nat) : Prop where
  lp : P.length = a + b + 1
  lq : Q.length = b + d + 1
  lr : R.length = a + d + 1
  one : (P.filter fun x => decide (x ∈ Q) && decide (x ∈ R)) = [c]
  zero : b = 0 ↔ m ∈ R
  leg : ∃ B, Path L m c B ∧ B.length = b + 1
theorem meet (G : Tr vs L) {o m t : Nat} {P Q R : List Nat} (hP : Path L o m P) (hQ : Path L m t Q) (hR : Path L o t R) : ∃ c a b d, Meet (L := L) o m t P Q R c a b d ∧ c ∈ P := by
  have hQr := hQ.reverse
  have mP : m ∈ P := List.mem_of_getLast? hP.lt
  have mQ : m ∈ Q.reverse := List.mem_of_getLast? hQr.lt
  obtain ⟨D, c, B, eQ, cP, nD⟩ := first_of (fun x => x ∈ P) mQ mP
  obtain ⟨A, B2, eP⟩ := List.append_of_mem cP
  rw [eQ] at hQr
  have hP' := hP
  rw [eP] at hP'
  obtain ⟨Q1, Q2⟩ := hQr.cut
  obtain ⟨P1, P2⟩ := hP'.cut
  have eB : B2 = B := by
    have := G.unique P2 Q2
    injection this
  subst eB
  have ndP := List.nodup_append.mp (eP ▸ hP.nd)
  have ndQ := List.nodup_append.mp hQr.nd
  have ncP := List.nodup_cons.mp ndP.2.1
  have dA : ∀ x ∈ D, x ∉ A := fun x hx ha => nD x hx (by rw [eP]; exact List.mem_append_left _ ha)
  have dB : ∀ x ∈ D, x ∉ c :: B2 := fun x hx ha => nD x hx (by rw [eP]; exact List.mem_append_right _ ha)
  have aB : ∀ x ∈ A, x ∉ c :: B2 := fun x hx ha => ndP.2.2 x hx x ha rfl
  have hR' : Path L o t (A ++ c :: D.reverse) := by
    refine ⟨P1.ch.app ?_, ?_, ?_, ?_⟩
    · have := Q1.reverse.ch
      rwa [List.reverse_append] at this
    · refine List.nodup_append.mpr ⟨ndP.1, ?_, fun x hx y hy e => ?_⟩
      · have := Q1.reverse.nd
        rwa [List.reverse_append] at this
      · subst e
        rcases List.mem_cons.mp hy with e | hy
        · exact aB x hx (e ▸ List.mem_cons_self)
        · exact dA x (List.mem_reverse.mp hy) hx
    · have := P1.hd
      cases A with
      | nil => exact this
      | cons a A => exact this
    · have := Q1.reverse.lt
      rw [List.reverse_append] at this
      rw [List.getLast?_append]
      have e : ([c].reverse ++ D.reverse) = c :: D.reverse := rfl
      rw [e] at this
      rw [this]
      rfl
  have eR := G.unique hR hR'
  have inQ : ∀ x, x ∈ Q ↔ x ∈ D ++ c :: B2 := fun x => by rw [← eQ, List.mem_reverse]
  have only : ∀ x, x ∈ P → x ∈ Q → x ∈ R → x = c := by
    intro x h1 h2 h3
    rw [eP] at h1
    rw [inQ] at h2
    rw [eR] at h3
    rcases List.mem_append.mp h1 with h1 | h1
    · rcases List.mem_append.mp h2 with h2 | h2
      · exact absurd h1 (dA x h2)
      · exact absurd h2 (aB x h1)
    · rcases List.mem_cons.mp h1 with e | h1
      · exact e
      · rcases List.mem_append.mp h3 with h3 | h3
        · exact absurd (List.mem_cons_of_mem _ h1) (aB x h3)
        · rcases List.mem_cons.mp h3 with e | h3
          · exact e
          · exact absurd (List.mem_cons_of_mem _ h1) (dB x (List.mem_reverse.mp h3))
  have cQ : c ∈ Q := (inQ c).mpr (by simp)
  have cR : c ∈ R := by rw [eR]; simp
  refine ⟨c, A.length, B2.length, D.length, ⟨?_, ?_, ?_, ?_, ?_, ⟨(c :: B2).reverse, P2.reverse, by simp⟩⟩, cP⟩
  · rw [eP]; simp; omega
  · have := congrArg List.length eQ
    rw [List.length_reverse] at this
    rw [this]; simp; omega
  · rw [eR]; simp; omega
  · rw [eP, List.filter_append, List.filter_cons, if_pos (by simp [cQ, cR])]
    have nA : A.filter (fun x => decide (x ∈ Q) && decide (x ∈ R)) = [] := List.filter_eq_nil_iff.mpr fun x hx h => by
      simp only [Bool.and_eq_true, decide_eq_true_eq] at h
      have := only x (by rw [eP]; exact List.mem_append_left _ hx) h.1 h.2
      exact aB x hx (this ▸ List.mem_cons_self)
    have nB : B2.filter (fun x => decide (x ∈ Q) && decide (x ∈ R)) = [] := List.filter_eq_nil_iff.mpr fun x hx h => by
      simp only [Bool.and_eq_true, decide_eq_true_eq] at h
      have := only x (by rw [eP]; exact List.mem_append_right _ (List.mem_cons_of_mem _ hx)) h.1 h.2
      exact ncP.1 (this ▸ hx)
    rw [nA, nB]
    rfl
  · constructor
    · intro z
      have : B2 = [] := List.length_eq_zero_iff.mp z
      subst this
      have e : c = m := Option.some.inj P2.lt
      exact e ▸ cR
    · intro h
      have e := only m mP (by rw [← List.mem_reverse]; exact mQ) h
      subst e
      have := path_one P2
      injection this with _ e
      rw [e]
      rfl
/-- what lies between both ends has two neighbours -/
theorem inner_yard (G : Good vs L) {s t x : Nat} {W : List Nat} (P : Path L s t W) (h : ∃ A B y z, W = A ++ y :: x :: z :: B) : x ∈ yardsL L := by
  obtain ⟨A, B, y, z, e⟩ := h
  have c : Chain L (y :: x :: z :: B) := by
    have := P.ch
    rw [e] at this
    exact this.right
  have nd := P.nd
  rw [e] at nd
  have nd2 := (List.nodup_append.mp nd).2.1
  refine mem_yards.mpr ⟨(G.vs_ x).mp (G.tr.ends c.1).2, two_nb c.1.symm c.2.1 fun q => ?_⟩
  exact (List.nodup_cons.mp nd2).1 (q ▸ by simp)
end
end TM
set_option linter.all false
/-! lanes in their sequence: told by what they are. Plain Lean. -/
namespace TM
def lexLe (p q : Nat × Nat) : Prop := p.1 < q.1 ∨ (p.1 = q.1 ∧ p.2 ≤ q.2)
def LexS (M : Lanes) : Prop := M.Pairwise lexLe
theorem lex_anti {p q : Nat × Nat} (h1 : lexLe p q) (h2 : lexLe q p) : p = q := by
  obtain ⟨a, b⟩ := p
  obtain ⟨c, d⟩ := q
  unfold lexLe at h1 h2
  simp only at h1 h2
  have e1 : a = c := by omega
  have e2 : b = d := by omega
  rw [e1, e2]
theorem lex_unique : ∀ {l m : Lanes}, l.Perm m → LexS l → LexS m → l = m
  | [], m, p, _, _ => (List.nil_perm.mp p).symm
  | a :: l, [], p, _, _ => absurd (List.perm_nil.mp p) (by simp)
  | a :: l, b :: m, p, h1, h2 => by
    obtain ⟨a1, a2⟩ := List.pairwise_cons.mp h1
    obtain ⟨b1, b2⟩ := List.pairwise_cons.mp h2
    have e : a = b := by
      have ma : a ∈ b :: m := p.mem_iff.mp List.mem_cons_self
      have mb : b ∈ a :: l := p.mem_iff.mpr List.mem_cons_self
      rcases List.mem_cons.mp ma with e | ma
      · exact e
      · rcases List.mem_cons.mp mb with e | mb
        · exact e.symm
        · exact lex_anti (a1 b mb) (b1 a ma)
    subst e
    rw [lex_unique (List.Perm.cons_inv p) a2 b2]
end TM
set_option Elab.async false
set_option linter.all false
set_option maxRecDepth 100000
set_option maxHeartbeats 4000000
/-! what a reading evaluates to, with what is true of it behind (P: value, heap ahead, heap behind) -/
namespace Ep
open PySem PySem.Spec PyProof.Rows L2
open Evl (Ex Ev EvT EvA EvL EvU)
def rLenA (K : PySem.W.Frag) : List V → Hp → VK → Prop := fun xs H Q => ∃ x n, xs = [x] ∧ LenV K x H n ∧ Q (V.int ↑n) H
def rListOf (K : PySem.W.Frag) : List V → Hp → VK → Prop := fun xs H Q => ∃ p ys, xs = [V.ref p] ∧ (SqL K H p ys ∨ SqT K H p ys) ∧ ∀ (l : Addr), H l = none → Q (V.ref l) (upd H l (HO.lst ys))
def rTupOf (K : PySem.W.Frag) : List V → Hp → VK → Prop := fun xs H Q => ∃ p ys, xs = [V.ref p] ∧ ((SqL K H p ys ∧ ∀ (l : Addr), H l = none → Q (V.ref l) (upd H l (HO.tup ys))) ∨ SqT K H p ys ∧ Q (V.ref p) H)
abbrev VP := V → Hp → Hp → Prop
def EvP (te : TE) (σ : L2.St) (H : Hp) (P : VP) : Prop := ∀ H1, Ex H H1 → ∀ Q : VK, (∀ v H2, Ex H1 H2 → P v H1 H2 → Q v H2) → te σ H1 Q
def EvAP (ta : TA) (σ : L2.St) (H : Hp) (P : List V → Hp → Hp → Prop) : Prop := ∀ H1, Ex H H1 → ∀ Q : List V → Hp → Prop, (∀ vs H2, Ex H1 H2 → P vs H1 H2 → Q vs H2) → ta σ H1 Q
def NewL (xs : List V) : VP := fun v H1 H2 => ∃ p, v = .ref p ∧ H1 p = none ∧ H2 p = some (.lst xs)
def Is (z : V) : VP := fun v _ _ => v = z
section
variable {K : PySem.W.Frag} {σ : L2.St} {H H' : Hp} {te ta tb : TE} {P P' : VP} {z : V} {xs : List V}
theorem EvP.mono (e : Ex H H') (h : EvP te σ H P) : EvP te σ H' P := fun H1 a Q q => h H1 (e.trans a) Q q
theorem EvP.imp (h : EvP te σ H P) (k : ∀ v H1 H2, Ex H H1 → Ex H1 H2 → P v H1 H2 → P' v H1 H2) : EvP te σ H P' := fun H1 a Q q => h H1 a Q fun v H2 e p => q v H2 e (k v H1 H2 a e p)
theorem EvP.run (h : EvP te σ H P) {Q : VK} (q : ∀ v H2, Ex H H2 → P v H H2 → Q v H2) : te σ H Q := h H (Ex.refl H) Q q
theorem evp_ev (h : Ev te σ H z) : EvP te σ H (Is z) := fun H1 a Q q => h H1 a Q fun H2 e => q z H2 e rfl
theorem ev_evp (h : EvP te σ H (Is z)) : Ev te σ H z := fun H1 a Q q => h H1 a Q fun v H2 e p => by
  cases p
  exact q H2 e
theorem evp_L (h : EvL te σ H xs) : EvP te σ H (NewL xs) := fun H1 a Q q => h H1 a Q fun p H2 hp e k => q (.ref p) H2 e ⟨p, rfl, hp, k⟩
theorem ev_L (h : EvP te σ H (NewL xs)) : EvL te σ H xs := fun H1 a Q q => h H1 a Q fun v H2 e k => by
  obtain ⟨p, rfl, hp, k⟩ := k
  exact q p H2 hp e k
theorem evap_nil : EvAP tNil σ H (fun vs _ _ => vs = []) := fun H1 _ _ q => q _ H1 (Ex.refl H1) rfl
theorem evap_one (h : EvP te σ H P) : EvAP (tCons te tNil) σ H (fun vs H1 H2 => ∃ v, vs = [v] ∧ P v H1 H2) := fun H1 a Q q => h H1 a _ fun v H2 e p => q [v] H2 e ⟨v, rfl, p⟩
/-- a new list, told by what holds of its items -/
theorem evp_lst {ta : TA} {vs : List V} (h : EvA ta σ H vs) (hl : vs.length ≤ 100000) : EvP (tLst ta) σ H (NewL vs) := evp_L (Evl.el_lst h hl)
theorem evp_tup {ta : TA} {vs : List V} (h : EvA ta σ H vs) (hl : vs.length ≤ 100000) : EvP (tTup ta) σ H (fun v H1 H2 => ∃ p, v = .ref p ∧ H1 p = none ∧ H2 p = some (.tup vs)) := fun H1 a Q q =>
  Evl.eu_tup h hl H1 a Q fun p H2 hp e k => q _ H2 e ⟨p, rfl, hp, k⟩
theorem evp_call {sp : Sp} {dvs : List V} {E : XK} {ta : TA} {PA : List V → Hp → Hp → Prop} (h : EvAP ta σ H PA) (hs : ∀ vs H1 H2, Ex H H1 → Ex H1 H2 → PA vs H1 H2 → ∀ Q : VK, (∀ v H3, Ex H2 H3 → P v H1 H3 → Q v H3) → sp (vs ++ dvs) H2 Q E) : EvP (tCall sp dvs E ta) σ H P := fun H1 a Q q =>
  h H1 a _ fun vs H2 e p => hs vs H1 H2 a e p Q fun v H3 e3 p3 => q v H3 (e.trans e3) p3
theorem evp_callA {sp : Sp} {dvs vs : List V} {E : XK} {ta : TA} (h : EvA ta σ H vs) (hs : ∀ H2, Ex H H2 → ∀ Q : VK, (∀ v H3, Ex H2 H3 → P v H2 H3 → Q v H3) → sp (vs ++ dvs) H2 Q E) (hP : ∀ v H1 H2 H3, Ex H H1 → Ex H1 H2 → Ex H2 H3 → P v H2 H3 → P v H1 H3) : EvP (tCall sp dvs E ta) σ H P := fun H1 a Q q =>
  h H1 a _ fun H2 e => hs H2 (a.trans e) Q fun v H3 e3 p3 => q v H3 (e.trans e3) (hP v H1 H2 H3 a e e3 p3)
theorem newL_back {H1 H2 H3 : Hp} {v : V} (e : Ex H1 H2) (h : NewL xs v H2 H3) : NewL xs v H1 H3 := by
  obtain ⟨p, r, hp, k⟩ := h
  exact ⟨p, r, Evl.fresh_back e hp, k⟩
end
theorem cb_one {r : List V → Hp → VK → Prop} {te : TE} {σ : L2.St} {H : Hp} {P : VP} {Q : VK} (h : EvP te σ H P) (k : ∀ v H2, Ex H H2 → P v H H2 → r [v] H2 Q) : tCB r (tCons te tNil) σ H Q := h.run k
theorem evp_cb1 {r : List V → Hp → VK → Prop} {te : TE} {σ : L2.St} {H : Hp} {P P' : VP} (h : EvP te σ H P) (k : ∀ v H1 H2, Ex H H1 → Ex H1 H2 → P v H1 H2 → ∀ Q : VK, (∀ z H3, Ex H2 H3 → P' z H1 H3 → Q z H3) → r [v] H2 Q) : EvP (tCB r (tCons te tNil)) σ H P' := fun H1 a Q q =>
  h H1 a _ fun v H2 e p => k v H1 H2 a e p Q fun z H3 e3 p3 => q z H3 (e.trans e3) p3
section
variable {te ta tv : TE} {σ : L2.St} {H : Hp} {P : VP} {D : Ends} {tz tu tw : TS} {t : TT} {i : Nat}
theorem p_asg (h : EvP te σ H P) (k : ∀ v H1, Ex H H1 → P v H H1 → tz D (σ.set i (some v)) H1) : tSeq (tAsg te (gName i)) tz D σ H := h.run k
theorem p_asg1 (h : EvP te σ H P) (k : ∀ v H1, Ex H H1 → P v H H1 → D.nx (σ.set i (some v)) H1) : tAsg te (gName i) D σ H := h.run k
theorem p_asgG {g : TG} (h : EvP te σ H P) (k : ∀ v H1, Ex H H1 → P v H H1 → g v σ H1 fun σ' H' => tz D σ' H') : tSeq (tAsg te g) tz D σ H := h.run k
theorem p_ret (h : EvP te σ H P) (k : ∀ v H1, Ex H H1 → P v H H1 → D.rt v H1) : tRet te D σ H := h.run k
theorem p_drop (h : EvP te σ H P) (k : ∀ v H1, Ex H H1 → P v H H1 → tz D σ H1) : tSeq (tDrop te) tz D σ H := h.run k
theorem p_drop1 (h : EvP te σ H P) (k : ∀ v H1, Ex H H1 → P v H H1 → D.nx σ H1) : tDrop te D σ H := h.run k
theorem p_if {b : Bool} (h : EvT t σ H b) (h1 : b = true → ∀ H1, Ex H H1 → tu { D with nx := tz D } σ H1) (h2 : b = false → ∀ H1, Ex H H1 → tw { D with nx := tz D } σ H1) : tSeq (tIfS t tu tw) tz D σ H := Evl.q_if h h1 h2
/-- an if that is not gone into -/
theorem p_skip (h : EvT t σ H false) (k : ∀ H1, Ex H H1 → tz D σ H1) : tSeq (tIfS t tu tNext) tz D σ H := Evl.q_when h (fun z => nomatch z) (fun _ => k)
theorem p_skip1 (h : EvT t σ H false) (k : ∀ H1, Ex H H1 → D.nx σ H1) : tIfS t tu tNext D σ H := Evl.s_when h (fun z => nomatch z) (fun _ => k)
theorem evt_P {b : Bool} (h : EvP te σ H (Is (.bl b))) : EvT (tB te) σ H b := Evl.et_B (ev_evp h)
end
theorem evp_dnew {σ : L2.St} {H : Hp} : EvP tDNewK σ H (fun v H1 H2 => ∃ p, v = .ref p ∧ H1 p = none ∧ H2 p = some (.dK [])) := fun H1 _ _ q p hp => q _ _ (Ex.new hp) ⟨p, rfl, hp, upd_same⟩
theorem ev_lenL {K : PySem.W.Frag} {ta : TE} {σ : L2.St} {H : Hp} {p : Addr} {xs : List V} (h : Ev ta σ H (.ref p)) (hx : SqL K H p xs) : Ev (tCB (rLenA K) (tCons ta tNil)) σ H (.int (xs.length : Int)) := fun H1 e Q q =>
  h H1 e _ fun H2 e2 => ⟨_, _, rfl, .inl ⟨xs, Evl.ex_l (e.trans e2) hx, rfl⟩, q H2 e2⟩
theorem ev_lenP {K : PySem.W.Frag} {ta : TE} {σ : L2.St} {H : Hp} {xs : List V} (h : EvP ta σ H (fun v _ H2 => ∃ p, v = .ref p ∧ H2 p = some (.lst xs))) : Ev (tCB (rLenA K) (tCons ta tNil)) σ H (.int (xs.length : Int)) := fun H1 e Q q =>
  h H1 e _ fun v H2 e2 ⟨p, r, k⟩ => ⟨v, xs.length, rfl, by subst r; exact .inl ⟨xs, Evl.sq_of k, rfl⟩, q H2 e2⟩
theorem pe_globI {X : Cx} {x : Str} {n : Int} {pos : Pos} (hg : Gl X x) (h : ∃ t, X.mg x = some (.int n t)) (hd : (x == ("__debug__" : Str)) = false := by decide) : PE X (.Name x pos) (tC (.int n)) := by
  obtain ⟨t, e⟩ := h
  exact pe_glob hg e ⟨t, rfl⟩ hd
theorem newL_at {xs : List V} {v : V} {H1 H2 : Hp} (h : NewL xs v H1 H2) : ∃ p, v = .ref p ∧ H2 p = some (.lst xs) := by
  obtain ⟨p, a, _, b⟩ := h
  exact ⟨p, a, b⟩
theorem rv_I0P {f : Int → Int → V} {i j : Int} {H : Hp} : Evl.RV (rI0 f) (.int i) (.int j) H (f i j) := Evl.rv_I0
def rLenD : List V → Hp → VK → Prop := fun xs H Q => ∃ a kvs, xs = [V.ref a] ∧ H a = some (.dK kvs) ∧ Q (.int kvs.length) H
theorem evt_leC {ta : TE} {σ : L2.St} {H : Hp} {c : Int} (h : EvP ta σ H (fun v _ _ => ∃ m : Int, v = .int m ∧ m ≤ c)) : EvT (tTest (tOp (rI0 fun i j => V.bl (decide (j < i))) ta (tC (.int c)))) σ H false := fun H1 e Q q => h H1 e _ fun v H2 e2 ⟨m, r, hm⟩ => by
  subst r
  refine ⟨m, c, rfl, rfl, false, ?_, q H2 e2⟩
  show V.bl (decide (c < m)) = _
  rw [decide_eq_false (by omega)]
theorem ev_fld {K : PySem.W.Frag} {σ : L2.St} {H : Hp} {i : Nat} {p C dx : Addr} {fs : List (Str × V)} {f : Str} {v : V} (hi : σ[i]? = some (some (.ref p))) (ho : H p = some (.ins C dx fs)) (cl : Cls K C) (na : NoAttr K C f) (hl : fs.lookup f = some v) : Ev (tFld K (tVar i) f) σ H v := fun H1 e Q q =>
  ⟨_, hi, p, C, dx, fs, v, rfl, e _ _ ho, cl, na, hl, q H1 (Ex.refl _)⟩
section
variable {K : PySem.W.Frag} {te tv : TE} {σ : L2.St} {H : Hp} {P : VP} {D : Ends} {tz : TS} {i : Nat} {p C dx : Addr} {fs : List (Str × V)} {f : Str}
theorem p_fld1 (h : EvP tv σ H P) (hi : σ[i]? = some (some (.ref p))) (ho : H p = some (.ins C dx fs)) (cl : Cls K C) (na : NoAttr K C f) (hl : fs.length < 1000) (k : ∀ v H1, Ex H H1 → P v H H1 → D.nx σ (upd H1 p (.ins C dx (putF f v fs)))) : sFld K (tVar i) tv f D σ H :=
  h.run fun v H1 e p1 => ⟨_, hi, p, C, dx, fs, rfl, e _ _ ho, cl, na, hl, k v H1 e p1⟩
theorem p_fld (h : EvP tv σ H P) (hi : σ[i]? = some (some (.ref p))) (ho : H p = some (.ins C dx fs)) (cl : Cls K C) (na : NoAttr K C f) (hl : fs.length < 1000) (k : ∀ v H1, Ex H H1 → P v H H1 → tz D σ (upd H1 p (.ins C dx (putF f v fs)))) : tSeq (sFld K (tVar i) tv f) tz D σ H :=
  h.run fun v H1 e p1 => ⟨_, hi, p, C, dx, fs, rfl, e _ _ ho, cl, na, hl, k v H1 e p1⟩
end
/-- a heap without one object -/
def but (H : Hp) (p : Addr) : Hp := fun b => if b = p then none else H b
theorem but_ex {H : Hp} {p : Addr} : Ex (but H p) H := fun b o h => by
  unfold but at h
  split at h
  · cases h
  · exact h
theorem but_at {H : Hp} {p : Addr} : but H p p = none := by unfold but; rw [if_pos rfl]
theorem but_ne {H : Hp} {p b : Addr} {o : HO} (h : H b = some o) (n : b ≠ p) : but H p b = some o := by unfold but; rw [if_neg n]; exact h
theorem ev_cb2 {r : List V → Hp → VK → Prop} {ta tb : TE} {σ : L2.St} {H : Hp} {x y z : V} (ha : Ev ta σ H x) (hb : Ev tb σ H y) (hr : ∀ H1, Ex H H1 → ∀ Q : VK, Q z H1 → r [x, y] H1 Q) : Ev (tCB r (tCons ta (tCons tb tNil))) σ H z := fun H1 e Q q =>
  ha H1 e _ fun H2 e2 => hb H2 (e.trans e2) _ fun H3 e3 => hr H3 ((e.trans e2).trans e3) Q (q H3 (e2.trans e3))
theorem ev_cb1 {r : List V → Hp → VK → Prop} {ta : TE} {σ : L2.St} {H : Hp} {x z : V} (ha : Ev ta σ H x) (hr : ∀ H1, Ex H H1 → ∀ Q : VK, Q z H1 → r [x] H1 Q) : Ev (tCB r (tCons ta tNil)) σ H z := fun H1 e Q q =>
  ha H1 e _ fun H2 e2 => hr H2 (e.trans e2) Q (q H2 e2)
/-! ### sources -/
def Src (wi : TI) (σ : L2.St) (H : Hp) (n : Nat) (X : Nat → V → Prop) : Prop := ∀ H1, Ex H H1 → ∀ R : It → Hp → Prop,
  (∀ J H2 (G : Hp → Prop), Ex H1 H2 → (∀ H3, Ex H2 H3 → G H3) → Walk J n G (fun i H v H' => H' = H ∧ X i v) → R J H2) → wi σ H1 R
section
variable {K : PySem.W.Frag} {σ : L2.St} {H H' : Hp} {tl : TE} {a : Addr} {xs : List V}
theorem src_list (h : Ev tl σ H (.ref a)) (hx : SqL K H a xs) : Src (iList K tl) σ H xs.length (fun i v => xs[i]? = some v) := fun H1 e R k =>
  h H1 e _ fun H2 e2 => ⟨a, rfl, ⟨xs, Evl.ex_l (e.trans e2) hx⟩, k _ H2 (fun H => SqL K H a xs) e2 (fun H3 e3 => Evl.ex_l ((e.trans e2).trans e3) hx) walk_list⟩
theorem src_listN (h : EvP tl σ H (fun v H1 H2 => ∃ p, v = .ref p ∧ H2 p = some (.lst xs))) : Src (iList K tl) σ H xs.length (fun i v => xs[i]? = some v) := fun H1 e R k =>
  h H1 e _ fun v H2 e2 ⟨p, r, hp⟩ => ⟨p, r, ⟨xs, Evl.sq_of hp⟩, k _ H2 (fun H => SqL K H p xs) e2 (fun H3 e3 => Evl.sq_of (e3 _ _ hp)) walk_list⟩
theorem src_tup (h : Ev tl σ H (.ref a)) (hx : SqT K H a xs) : Src (iTup K tl) σ H xs.length (fun i v => xs[i]? = some v) := fun H1 e R k =>
  h H1 e _ fun H2 e2 => ⟨a, rfl, ⟨xs, Evl.ex_t (e.trans e2) hx⟩, k _ H2 (fun H => SqT K H a xs) e2 (fun H3 e3 => Evl.ex_t ((e.trans e2).trans e3) hx) walk_tup⟩
theorem src_rng1 {ta : TA} {n : Nat} (h : EvA ta σ H [.int (n : Int)]) (hn : n ≤ 100000) : Src (iRng1 ta) σ H n (fun i v => v = .int (i : Int)) := fun H1 e R k =>
  h H1 e _ fun H2 e2 => ⟨n, rfl, by omega, by omega, by
    have z := k (Itr 0 n) H2 (fun _ => True) e2 (fun _ _ => trivial) (walk_range.mono (fun _ h => h) fun i H x H' _ _ y => ⟨y.1, by
      rw [y.2]
      show V.int (0 + (i : Int)) = _
      rw [Int.zero_add]⟩)
    exact z⟩
theorem src_keys {td : TE} {d : Addr} {o : Obj} {kvs : List (Key × V)} (h : Ev td σ H (.ref d)) (hd : H d = some (.frz o (.dK kvs))) : Src (iKeys td) σ H kvs.length (fun i v => ∃ k x, kvs[i]? = some (k, x) ∧ v = kV k) := fun H1 e R k =>
  h H1 e _ fun H2 e2 => ⟨d, o, rfl, .inl ⟨kvs, e2 _ _ (e _ _ hd), k _ H2 (fun H => H d = some (.frz o (.dK kvs))) e2 (fun H3 e3 => e3 _ _ (e2 _ _ (e _ _ hd))) (walk_keys.mono (fun _ h => h) fun i H x H' _ _ y => y)⟩⟩
/-- a list comprehension, by a word of what is made so far; D: the list that is made -/
theorem lcI {wi : TI} {g : TG} {tt : TT} {te : TE} {vs : List Nat} {n : Nat} {X : Nat → V → Prop} (s : Src wi σ H n X) (hn : n ≤ 50000) (st : Nat → V → L2.St) (hw : ∀ i x, wipe (st i x) vs = wipe σ vs) (I : Addr → Nat → List V → Hp → Prop)
    (hg : ∀ i x H1 Q, Ex H H1 → i < n → X i x → Q (st i x) H1 → g x (wipe σ vs) H1 Q) (f : Nat → Bool)
    (ht : ∀ i x H1, Ex H H1 → i < n → X i x → EvT tt (st i x) H1 (f i)) (P : Nat → VP)
    (he : ∀ i x H1, Ex H H1 → i < n → X i x → f i = true → EvP te (st i x) H1 (P i))
    (i0 : ∀ D H1, Ex H H1 → H1 D = none → I D 0 [] H1) (iE : ∀ D i ys Ha Hb, Ex Ha Hb → I D i ys Ha → I D i ys Hb) (iD : ∀ D i ys Ha xs, Ha D = some (.lst ys) → I D i ys Ha → I D i ys (upd Ha D (.lst xs)))
    (iY : ∀ D i ys v Ha Hb, Ex H Ha → Ex Ha Hb → Ha D = some (.lst ys) → i < n → f i = true → I D i ys Ha → P i v Ha Hb → ∀ xs, I D (i + 1) (ys ++ [v]) (upd Hb D (.lst xs))) (iN : ∀ D i ys Ha, Ex H Ha → i < n → f i = false → I D i ys Ha → I D (i + 1) ys Ha) :
    EvP (tLc wi g tt te vs) σ H (fun v H1 H2 => ∃ p ys, v = .ref p ∧ H1 p = none ∧ H2 p = some (.lst ys) ∧ ys.length ≤ n ∧ I p n ys H2) := fun H0 e0 Q q => by
  refine s H0 e0 _ fun J H1 G e1 hG hW D hD => ?_
  have iE0 : ∀ o, Ex H1 (upd H1 D o) := fun o => Ex.new hD
  refine lc_it hW (fun i H' => ∃ ys, Ex H1 H' ∧ I D i ys H' ∧ ys.length ≤ i ∧ H' D = some (.lst ys)) ⟨[], iE0 _, iE _ _ _ _ _ (iE0 _) (i0 D H1 (e0.trans e1) hD), Nat.le_refl _, upd_same⟩
    (fun i H' _ ⟨ys, a, _, _, _⟩ => hG _ a) (fun i x Ha Hb hi ⟨ys, a, hI, hl, c⟩ y => ?_) (fun H' ⟨ys, a, hI, hl, c⟩ => q (.ref D) H' (e1.trans a) ⟨D, ys, rfl, Evl.fresh_back e1 hD, c, hl, hI⟩)
  obtain ⟨rfl, hX⟩ := y
  have eA : Ex H Hb := (e0.trans e1).trans a
  refine hg i x Hb _ eA hi hX ⟨hw i x, ?_⟩
  refine ht i x Hb eA hi hX Hb (Ex.refl _) _ fun Hc ec => ?_
  cases hf : f i with
  | true =>
    refine iteT ?_
    refine he i x Hb eA hi hX hf Hc ec _ fun v Hd ed p => ?_
    refine ⟨ys, ed _ _ (ec _ _ c), Nat.lt_of_le_of_lt hl (Nat.lt_of_lt_of_le hi (Nat.le_trans hn (by decide))), ys ++ [v], ?_, ?_, ?_, upd_same⟩
    · exact Ex.mut ((a.trans ec).trans ed) hD
    · exact iY D i ys v Hc Hd (eA.trans ec) ed (ec _ _ c) hi hf (iE _ _ _ _ _ ec hI) p _
    · simp
      exact hl
  | false =>
    refine iteF ?_
    exact ⟨ys, a.trans ec, iN D i ys Hc (eA.trans ec) hi hf (iE _ _ _ _ _ ec hI), Nat.le_succ_of_le hl, ec _ _ c⟩
/-- values that are known: which turns give, and what -/
theorem lcV {wi : TI} {g : TG} {tt : TT} {te : TE} {vs : List Nat} {n : Nat} {X : Nat → V → Prop} (s : Src wi σ H n X) (hn : n ≤ 50000) (st : Nat → V → L2.St) (hw : ∀ i x, wipe (st i x) vs = wipe σ vs)
    (hg : ∀ i x H1 Q, Ex H H1 → i < n → X i x → Q (st i x) H1 → g x (wipe σ vs) H1 Q) (f : Nat → Bool) (v : Nat → V)
    (ht : ∀ i x H1, Ex H H1 → i < n → X i x → EvT tt (st i x) H1 (f i))
    (he : ∀ i x H1, Ex H H1 → i < n → X i x → f i = true → Ev te (st i x) H1 (v i)) :
    EvP (tLc wi g tt te vs) σ H (NewL (((List.range n).filter f).map v)) := by
  refine (lcI s hn st hw (fun _ i ys _ => ys = ((List.range i).filter f).map v) hg f ht (fun i => Is (v i)) (fun i x H1 e hi hX hf => evp_ev (he i x H1 e hi hX hf))
    (fun _ _ _ _ => rfl) (fun _ _ _ _ _ _ h => h) (fun _ _ _ _ _ _ h => h) (fun D i ys z Ha Hb _ _ _ hi hf h p xs => ?_) (fun D i ys Ha _ hi hf h => ?_)).imp ?_
  · cases p
    rw [List.range_succ, List.filter_append, List.map_append, List.filter_cons, if_pos hf, h]
    rfl
  · rw [List.range_succ, List.filter_append, List.map_append, List.filter_cons, if_neg (by rw [hf]; decide), h]
    exact (List.append_nil _).symm
  · rintro z H1 H2 _ _ ⟨p, ys, rfl, hp, k, _, h⟩
    exact ⟨p, rfl, hp, by rw [k, h]⟩
theorem yes_go {F : Bool → Hp → Prop} {σ : L2.St} {H : Hp} (h : F true H) : tYes σ H F := h
/-- a dict comprehension -/
theorem dcI {wi : TI} {g : TG} {tk tv : TE} {vs : List Nat} {n : Nat} {X : Nat → V → Prop} (s : Src wi σ H n X) (hn : n ≤ 50000) (st : Nat → V → L2.St) (hw : ∀ i x, wipe (st i x) vs = wipe σ vs) (I : Addr → Nat → List V → Hp → Prop)
    (hg : ∀ i x H1 Q, Ex H H1 → i < n → X i x → Q (st i x) H1 → g x (wipe σ vs) H1 Q) (kf : Nat → Key) (inj : ∀ i j, i < j → j < n → kf i ≠ kf j)
    (hk : ∀ i x H1, Ex H H1 → i < n → X i x → Ev tk (st i x) H1 (kV (kf i))) (P : Nat → VP)
    (he : ∀ i x H1, Ex H H1 → i < n → X i x → EvP tv (st i x) H1 (P i))
    (i0 : ∀ D H1, Ex H H1 → H1 D = none → I D 0 [] H1) (iE : ∀ D i ys Ha Hb, Ex Ha Hb → I D i ys Ha → I D i ys Hb)
    (iY : ∀ D i ys v Ha Hb kvs, Ex H Ha → Ex Ha Hb → Ha D = some (.dK kvs) → i < n → I D i ys Ha → P i v Ha Hb → ∀ xs, I D (i + 1) (ys ++ [v]) (upd Hb D (.dK xs))) :
    EvP (tDc wi g tYes tk tv vs) σ H (fun v H1 H2 => ∃ p ys, v = .ref p ∧ H1 p = none ∧ H2 p = some (.dK (((List.range n).map kf).zip ys)) ∧ ys.length = n ∧ I p n ys H2) := fun H0 e0 Q q => by
  refine s H0 e0 _ fun J H1 G e1 hG hW D hD => ?_
  have iE0 : ∀ o, Ex H1 (upd H1 D o) := fun o => Ex.new hD
  refine ⟨fun i m H' => m = n - i ∧ i ≤ n ∧ ∃ ys : List V, Ex H1 H' ∧ I D i ys H' ∧ ys.length = i ∧ H' D = some (.dK (((List.range i).map kf).zip ys)), ⟨n, by simp, Nat.zero_le _, [], iE0 _, iE _ _ _ _ _ (iE0 _) (i0 D H1 (e0.trans e1) hD), rfl, upd_same⟩, ?_⟩
  rintro i m Ha ⟨rfl, hin, ys, a, hI, hl, c⟩
  by_cases hi : i < n
  · refine .inr ⟨hW.goes i Ha hi (hG _ a), fun H' => ∃ ys : List V, Ex H1 H' ∧ I D (i + 1) ys H' ∧ ys.length = i + 1 ∧ H' D = some (.dK (((List.range (i + 1)).map kf).zip ys)), fun H' p' => ⟨n - (i + 1), by omega, rfl, hi, p'⟩, fun x Hb y => ?_⟩
    obtain ⟨rfl, hX⟩ := hW.yields i Ha x Hb hi (hG _ a) y
    have eA : Ex H Hb := (e0.trans e1).trans a
    refine hg i x Hb _ eA hi hX ⟨hw i x, yes_go ?_⟩
    dsimp only
    rw [if_pos rfl]
    refine hk i x Hb eA hi hX Hb (Ex.refl _) _ fun Hc ec => ?_
    refine he i x Hb eA hi hX Hc ec _ fun v Hd ed p => ?_
    have nk : valV (((List.range i).map kf).zip ys) (kf i) = none := by
      cases e : valV (((List.range i).map kf).zip ys) (kf i) with
      | none => rfl
      | some z =>
        have m := valV_in e
        obtain ⟨pr, hpr, e2⟩ := List.mem_map.mp m
        have m2 := (List.of_mem_zip (a := pr.1) (b := pr.2) hpr).1
        obtain ⟨j, hj, e3⟩ := List.mem_map.mp m2
        exact absurd (e3.trans e2) (inj j i (List.mem_range.mp hj) hi)
    refine ⟨_, kf i, rfl, ed _ _ (ec _ _ c), ?_, ys ++ [v], ?_, ?_, ?_, ?_⟩
    · rw [List.length_zip, List.length_map, List.length_range, hl, Nat.min_self]
      exact Nat.lt_of_lt_of_le hi (Nat.le_trans hn (by decide))
    · exact Ex.mut ((a.trans ec).trans ed) hD
    · exact iY D i ys v Hc Hd _ (eA.trans ec) ed (ec _ _ c) hi (iE _ _ _ _ _ ec hI) p _
    · simp [hl]
    · rw [upd_same, putK_new v nk, List.range_succ, List.map_append, List.zip_append (by simp [hl])]
      rfl
  · have e : i = n := by omega
    subst e
    exact .inl ⟨hW.stops Ha (hG _ a), q (.ref D) Ha (e1.trans a) ⟨D, ys, rfl, Evl.fresh_back e1 hD, c, hl, hI⟩⟩
/-- over a dict that stands: locked meanwhile -/
theorem evp_lock {t : TE} {d : Addr} {u : HO} {P P' : VP} (hd : H d = some u) (hm : Mut (some u)) (h : ∀ Ha od, Ex H Ha → EvP t σ (upd Ha d (.frz od u)) P)
    (hP : ∀ v Ha H2 od, Ex H Ha → Ex (upd Ha d (.frz od u)) H2 → P v (upd Ha d (.frz od u)) H2 → P' v Ha (upd H2 d u)) : EvP (tLockE t) σ H P' := fun H1 e1 Q q =>
  ⟨d, u, e1 _ _ hd, hm, fun od => h H1 od e1 _ (Ex.refl _) _ fun v H2 e2 p => ⟨e2 _ _ upd_same, q v _ (fun b o hb => by
    by_cases e : b = d
    · subst e
      rw [e1 _ _ hd] at hb
      cases hb
      exact upd_same
    · rw [upd_ne e]
      exact e2 b o (by rw [upd_ne e]; exact hb)) (hP v H1 H2 od e1 e2 p)⟩⟩
end
end Ep
set_option Elab.async false
set_option linter.all false
set_option maxRecDepth 100000
set_option maxHeartbeats 4000000
/-! promises of the program's defs, whatever text they stand in -/
namespace Pr
open PySem PySem.Spec PyProof.Rows L2 TM
open Evl (Ex)
abbrev vI (n : Nat) : V := .int (n : Int)
abbrev vIs (l : List Nat) : List V := l.map vI
theorem vIs_int (l : List Nat) : vIs l = (l.map fun (n : Nat) => (n : Int)).map V.int := by
  rw [List.map_map]
  rfl
theorem szN {n : Nat} (h : n ≤ 100000) : n < sizeLine := Nat.lt_of_le_of_lt h (by decide)
theorem szL {n : Nat} (h : n ≤ 100000) : n ≤ sizeLine := Nat.le_trans h (by decide)
/-- lanes: a list of pairs -/
def PairAt (H : Hp) (v : V) (p : Nat × Nat) : Prop := ∃ t, v = .ref t ∧ H t = some (.tup [vI p.1, vI p.2])
def LanesAt (H : Hp) (a : Addr) (L : Lanes) : Prop := ∃ vs, H a = some (.lst vs) ∧ Paired (PairAt H) vs L
theorem PairAt.ex {H H' : Hp} {v : V} {p : Nat × Nat} (e : Ex H H') (h : PairAt H v p) : PairAt H' v p := by
  obtain ⟨t, r, k⟩ := h
  exact ⟨t, r, e _ _ k⟩
theorem paired_imp {α β : Type} {R S : α → β → Prop} (k : ∀ a b, R a b → S a b) : ∀ {xs : List α} {ys : List β}, Paired R xs ys → Paired S xs ys
  | _, _, .nil => .nil
  | _, _, .cons h t => .cons (k _ _ h) (paired_imp k t)
theorem paired_ix {α β : Type} {R : α → β → Prop} : ∀ {xs : List α} {ys : List β} {i : Nat} {x : α}, Paired R xs ys → xs[i]? = some x → ∃ y, ys[i]? = some y ∧ R x y
  | _, _, _, _, .nil, e => by simp at e
  | _, _, 0, _, .cons r _, e => by simp at e; subst e; exact ⟨_, rfl, r⟩
  | _, _, i + 1, x, .cons _ t, e => by
    obtain ⟨u, h1, h2⟩ := paired_ix (i := i) (x := x) t (by simpa using e)
    exact ⟨u, by simpa using h1, h2⟩
theorem LanesAt.ex {H H' : Hp} {a : Addr} {L : Lanes} (e : Ex H H') (h : LanesAt H a L) : LanesAt H' a L := by
  obtain ⟨vs, r, k⟩ := h
  exact ⟨vs, e _ _ r, paired_imp (fun _ _ z => z.ex e) k⟩
theorem take_more {α : Type} : ∀ {l : List α} {i : Nat} {x : α}, l[i]? = some x → l.take (i + 1) = l.take i ++ [x]
  | [], i, x, h => by simp at h
  | a :: l, 0, x, h => by
    have e : a = x := Option.some.inj h
    subst e
    rfl
  | a :: l, i + 1, x, h => by
    have ih := take_more (l := l) (i := i) (x := x) h
    show a :: l.take (i + 1) = a :: l.take i ++ [x]
    rw [ih]
    rfl
/-- is_count of an int -/
def spCount : Sp := fun vs H Q _ => ∃ i : Int, vs = [.int i] ∧ Q (.bl (decide (0 ≤ i))) H
/-- is_row of a list or tuple -/
def spRow (K : PySem.W.Frag) : Sp := fun vs H Q _ => ∃ a xs, vs = [.ref a] ∧ (H a = some (.lst xs) ∨ H a = some (.tup xs)) ∧ ∀ H', Ex H H' → Q (.bl true) H'
theorem kit_int (K : PySem.W.Frag) : PySem.W.kitOne K (.type "int") (.type "int") = some true := by rfl
end Pr
namespace Pr
open PySem PySem.Spec PyProof.Rows L2 TM
open Evl (Ex)
abbrev keyN (i : Nat) : Key := Sum.inl (i : Int)
def keysN (m : Nat) : List Key := (List.range m).map keyN
theorem find_zip {κ : Type} [DecidableEq κ] : ∀ (ks : List κ) (ys : List V) (i : Nat) (k : κ), ks.Nodup → ks.length = ys.length → ks[i]? = some k → valV (ks.zip ys) k = ys[i]?
  | [], ys, i, k, _, _, h => by simp at h
  | a :: ks, [], i, k, _, h, _ => by simp at h
  | a :: ks, y :: ys, 0, k, nd, hl, h => by
    have e : a = k := Option.some.inj h
    subst e
    exact valV_pos rfl
  | a :: ks, y :: ys, i + 1, k, nd, hl, h => by
    have h' : ks[i]? = some k := by simpa using h
    obtain ⟨n1, n2⟩ := List.nodup_cons.mp nd
    have ne : ¬ a = k := fun e => n1 (e ▸ List.mem_of_getElem? h')
    show valV ((a, y) :: ks.zip ys) k = ys[i]?
    rw [valV_neg ne]
    exact find_zip ks ys i k n2 (by simpa using hl) h'
theorem keysN_nodup (m : Nat) : (keysN m).Nodup := by
  unfold keysN
  refine List.pairwise_map.mpr ?_
  exact List.nodup_range.imp fun h e => h (by injection e with e; omega)
theorem keysN_at {m i : Nat} (h : i < m) : (keysN m)[i]? = some (keyN i) := by
  unfold keysN
  rw [List.getElem?_map, List.getElem?_range h]
  rfl
theorem keysN_length (m : Nat) : (keysN m).length = m := by simp [keysN]
theorem valV_keysN {m : Nat} {ys : List V} (hl : ys.length = m) {i : Nat} (h : i < m) : valV ((keysN m).zip ys) (keyN i) = ys[i]? :=
  find_zip _ _ i _ (keysN_nodup m) (by rw [keysN_length, hl]) (keysN_at h)
/-- rows by places: a dict of lists -/
structure RowsAt (H : Hp) (m : Nat) (rs : List Addr) (row : Nat → List Nat) : Prop where
  len : rs.length = m
  at_ : ∀ i r, rs[i]? = some r → H r = some (.lst (vIs (row i)))
def dkOf (m : Nat) (rs : List Addr) : HO := .dK ((keysN m).zip (rs.map V.ref))
def AroundAt (H : Hp) (d : Addr) (m : Nat) (row : Nat → List Nat) : Prop := ∃ rs, H d = some (dkOf m rs) ∧ RowsAt H m rs row
def AroundR (H : Hp) (d : Addr) (m : Nat) (row : Nat → List Nat) : Prop := ∃ rs, Rd H d (dkOf m rs) ∧ RowsAt H m rs row
theorem AroundAt.r {H : Hp} {d : Addr} {m : Nat} {row : Nat → List Nat} (h : AroundAt H d m row) : AroundR H d m row := by
  obtain ⟨rs, a, b⟩ := h
  exact ⟨rs, .inl a, b⟩
theorem RowsAt.ex {H H' : Hp} {m : Nat} {rs : List Addr} {row : Nat → List Nat} (e : Ex H H') (h : RowsAt H m rs row) : RowsAt H' m rs row := ⟨h.len, fun i r k => e _ _ (h.at_ i r k)⟩
theorem AroundAt.ex {H H' : Hp} {d : Addr} {m : Nat} {row : Nat → List Nat} (e : Ex H H') (h : AroundAt H d m row) : AroundAt H' d m row := by
  obtain ⟨rs, a, b⟩ := h
  exact ⟨rs, e _ _ a, b.ex e⟩
theorem RowsAt.get {H : Hp} {m : Nat} {rs : List Addr} {row : Nat → List Nat} (h : RowsAt H m rs row) {i : Nat} (hi : i < m) : ∃ r, rs[i]? = some r ∧ H r = some (.lst (vIs (row i))) ∧ valV ((keysN m).zip (rs.map V.ref)) (keyN i) = some (.ref r) := by
  have hl : i < rs.length := by rw [h.len]; exact hi
  refine ⟨rs[i], List.getElem?_eq_getElem hl, h.at_ i _ (List.getElem?_eq_getElem hl), ?_⟩
  rw [valV_keysN (by rw [List.length_map, h.len]) hi, List.getElem?_map, List.getElem?_eq_getElem hl]
  rfl
theorem RowsAt.lock {H : Hp} {m : Nat} {rs : List Addr} {row : Nat → List Nat} {d : Addr} (h : RowsAt H m rs row) (hd : H d = some (dkOf m rs)) (od : Obj) : RowsAt (upd H d (.frz od (dkOf m rs))) m rs row := ⟨h.len, fun i r k => by
  have z := h.at_ i r k
  rw [upd_ne (ne_of z hd (fun q => nomatch q))]
  exact z⟩
/-- an append to a row -/
theorem RowsAt.app {H : Hp} {m : Nat} {rs : List Addr} {row : Nat → List Nat} (h : RowsAt H m rs row) (nd : rs.Nodup) {i x : Nat} {r : Addr} (hr : rs[i]? = some r) : RowsAt (upd H r (.lst (vIs (row i) ++ [vI x]))) m rs (fun j => row j ++ if i = j then [x] else []) := ⟨h.len, fun j q k => by
  by_cases e : i = j
  · subst e
    have : q = r := Option.some.inj (k.symm.trans hr)
    subst this
    rw [upd_same, if_pos rfl]
    simp [vIs]
  · have nq : q ≠ r := fun z => e (nodup_ix nd hr (z ▸ k))
    rw [upd_ne nq, if_neg e, List.append_nil]
    exact h.at_ j q k⟩
theorem RowsAt.congr {H : Hp} {m : Nat} {rs : List Addr} {row row' : Nat → List Nat} (h : RowsAt H m rs row) (e : ∀ i, i < m → row i = row' i) : RowsAt H m rs row' := ⟨h.len, fun i r k => by
  have hi := (List.getElem?_eq_some_iff.mp k).1
  rw [← e i (by rw [← h.len]; exact hi)]
  exact h.at_ i r k⟩
def spNeigh : Sp := fun vs H Q _ => ∃ a L, vs = [.ref a] ∧ LanesAt H a L ∧ (∀ p ∈ L, p.1 ≤ L.length ∧ p.2 ≤ L.length) ∧ L.length ≤ 1000 ∧
  ∀ p H', Ex H H' → H p = none → AroundAt H' p (L.length + 1) (adj L) → Q (.ref p) H'
def spPair : Sp := fun vs H Q _ => ∃ (t : Addr) (p : Nat × Nat) (last : Nat), vs = [.ref t, vI last] ∧ H t = some (.tup [vI p.1, vI p.2]) ∧ ∀ H', Ex H H' → Q (.bl (decide (p.1 ≤ last) && decide (p.2 ≤ last))) H'
def spAhead : Sp := fun vs H Q _ => ∃ L d goal vt, vs = [.ref d, vI goal] ∧ Tr vt L ∧ AroundR H d (L.length + 1) (adj L) ∧ goal ∈ vt ∧ (∀ v ∈ vt, v < L.length + 1) ∧ L.length ≤ 1000 ∧
  ∀ p H' kvs, Ex H H' → H p = none → Ahead L goal kvs → H' p = some (.dK (kvs.map fun q => (keyN q.1, vI q.2))) → Q (.ref p) H'
theorem nbP_len : ∀ (L : Lanes) (i : Nat), (nbP L i).length ≤ 2 * L.length
  | [], _ => by simp [nbP]
  | (a, b) :: L, i => by
    have ih := nbP_len L i
    unfold nbP
    rw [List.length_append, List.length_append, List.length_cons]
    split <;> split <;> simp <;> omega
def spYards : Sp := fun vs H Q _ => ∃ L d, vs = [.ref d] ∧ AroundAt H d (L.length + 1) (adj L) ∧ L.length ≤ 1000 ∧ ∀ p H', Ex H H' → H p = none → H' p = some (.lst (vIs (yardsL L))) → Q (.ref p) H'
def spLanes : Sp := fun vs H Q _ => ∃ L a vt, vs = [.ref a] ∧ LanesAt H a L ∧ Good vt L ∧ ∀ H', Ex H H' → Q (.bl true) H'
/-- a Country stands at p -/
def fl (l d e y g : Addr) : List (Str × V) := [("_lanes", .ref l), ("_around", .ref d), ("_ahead", .ref e), ("_yards", .ref y), ("_gates", .ref g)]
structure CPart (H : Hp) (L : Lanes) (l d e y g : Addr) (rs qs : List Addr) : Prop where
  l_ : ∃ M, LanesAt H l M ∧ M.Perm (norm L) ∧ LexS M
  d_ : H d = some (dkOf (L.length + 1) rs)
  r_ : RowsAt H (L.length + 1) rs (adj L)
  e_ : H e = some (dkOf (L.length + 1) qs)
  ql : qs.length = L.length + 1
  q_ : ∀ (i : Nat) (q : Addr), qs[i]? = some q → ∃ kvs, Ahead L i kvs ∧ H q = some (.dK (kvs.map fun q => (keyN q.1, vI q.2)))
  y_ : H y = some (.lst (vIs (yardsL L)))
  g_ : H g = some (.lst (vIs (gatesL L)))
def CAt (C : Addr) (H : Hp) (p : Addr) (L : Lanes) : Prop := ∃ dx l d e y g rs qs, H p = some (.ins C dx (fl l d e y g)) ∧ CPart H L l d e y g rs qs
theorem CPart.ex {H H' : Hp} {L : Lanes} {l d e y g : Addr} {rs qs : List Addr} (x : Ex H H') (h : CPart H L l d e y g rs qs) : CPart H' L l d e y g rs qs where
  l_ := by
    obtain ⟨M, a, b⟩ := h.l_
    exact ⟨M, a.ex x, b⟩
  d_ := x _ _ h.d_
  r_ := h.r_.ex x
  e_ := x _ _ h.e_
  ql := h.ql
  q_ := fun i q k => by
    obtain ⟨kvs, a, b⟩ := h.q_ i q k
    exact ⟨kvs, a, x _ _ b⟩
  y_ := x _ _ h.y_
  g_ := x _ _ h.g_
theorem CAt.ex {C : Addr} {H H' : Hp} {p : Addr} {L : Lanes} (x : Ex H H') (h : CAt C H p L) : CAt C H' p L := by
  obtain ⟨dx, l, d, e, y, g, rs, qs, a, b⟩ := h
  exact ⟨dx, l, d, e, y, g, rs, qs, x _ _ a, b.ex x⟩
def spInit (C : Addr) : Sp := fun vs H Q _ => ∃ L p dx a vt, vs = [.ref p, .ref a] ∧ H p = some (.ins C dx []) ∧ LanesAt H a L ∧ Good vt L ∧ ∀ H', (∀ b o, H b = some o → b ≠ p → H' b = some o) → CAt C H' p L → Q .non H'
theorem fl_l {l d e y g : Addr} : (fl l d e y g).lookup ("_lanes" : Str) = some (.ref l) := by rfl
theorem fl_d {l d e y g : Addr} : (fl l d e y g).lookup ("_around" : Str) = some (.ref d) := by rfl
theorem fl_e {l d e y g : Addr} : (fl l d e y g).lookup ("_ahead" : Str) = some (.ref e) := by rfl
theorem fl_y {l d e y g : Addr} : (fl l d e y g).lookup ("_yards" : Str) = some (.ref y) := by rfl
theorem fl_g {l d e y g : Addr} : (fl l d e y g).lookup ("_gates" : Str) = some (.ref g) := by rfl
theorem fl_no {l d e y g : Addr} {x : Str} (h : ([("_lanes", ()), ("_around", ()), ("_ahead", ()), ("_yards", ()), ("_gates", ())] : List (Str × Unit)).lookup x = none) : (fl l d e y g).lookup x = none := by
  have f : ∀ (ks : List Str) (vs : List V), ks.length = vs.length → (ks.map fun k => (k, ())).lookup x = none → (ks.zip vs).lookup x = none := by
    intro ks
    induction ks with
    | nil => intro vs _ _; rfl
    | cons k ks ih =>
      intro vs hl hn
      cases vs with
      | nil => cases hl
      | cons v vs =>
        show List.lookup x ((k, v) :: ks.zip vs) = none
        have hn : List.lookup x ((k, ()) :: ks.map fun k => (k, ())) = none := hn
        rw [List.lookup_cons] at hn ⊢
        cases e : (x == k) with
        | true => rw [e] at hn; cases hn
        | false => rw [e] at hn; exact ih vs (by simpa using hl) hn
  exact f ["_lanes", "_around", "_ahead", "_yards", "_gates"] [.ref l, .ref d, .ref e, .ref y, .ref g] rfl h
/-- all but instances stay -/
def Ki (H H' : Hp) : Prop := ∀ b o, H b = some o → (∀ C dx fs, o ≠ HO.ins C dx fs) → H' b = some o
theorem Ki.of {H H' : Hp} (e : Ex H H') : Ki H H' := fun b o h _ => e b o h
theorem Ki.trans {H H1 H2 : Hp} (a : Ki H H1) (b : Ki H1 H2) : Ki H H2 := fun c o h n => b c o (a c o h n) n
theorem Ki.put {H : Hp} {p C dx : Addr} {fs fs' : List (Str × V)} (h : H p = some (.ins C dx fs)) : Ki H (upd H p (.ins C dx fs')) := fun b o hb n => by
  rw [upd_ne (ne_of hb h (n _ _ _))]
  exact hb
theorem LanesAt.ki {H H' : Hp} {a : Addr} {L : Lanes} (e : Ki H H') (h : LanesAt H a L) : LanesAt H' a L := by
  obtain ⟨vs, r, k⟩ := h
  exact ⟨vs, e _ _ r (fun _ _ _ z => nomatch z), paired_imp (fun _ _ ⟨t, q, z⟩ => ⟨t, q, e _ _ z (fun _ _ _ z => nomatch z)⟩) k⟩
theorem RowsAt.ki {H H' : Hp} {m : Nat} {rs : List Addr} {row : Nat → List Nat} (e : Ki H H') (h : RowsAt H m rs row) : RowsAt H' m rs row := ⟨h.len, fun i r k => e _ _ (h.at_ i r k) (fun _ _ _ z => nomatch z)⟩
theorem dkOf_ni {m : Nat} {rs : List Addr} : ∀ C dx fs, dkOf m rs ≠ HO.ins C dx fs := fun _ _ _ z => nomatch z
theorem lst_ni {xs : List V} : ∀ C dx fs, HO.lst xs ≠ HO.ins C dx fs := fun _ _ _ z => nomatch z
theorem dK_ni {xs : List (Key × V)} : ∀ C dx fs, HO.dK xs ≠ HO.ins C dx fs := fun _ _ _ z => nomatch z
abbrev g1 (l : V) : List (Str × V) := [("_lanes", l)]
abbrev g2 (l d : V) : List (Str × V) := [("_lanes", l), ("_around", d)]
abbrev g3 (l d e : V) : List (Str × V) := [("_lanes", l), ("_around", d), ("_ahead", e)]
abbrev g4 (l d e y : V) : List (Str × V) := [("_lanes", l), ("_around", d), ("_ahead", e), ("_yards", y)]
abbrev g5 (l d e y z : V) : List (Str × V) := [("_lanes", l), ("_around", d), ("_ahead", e), ("_yards", y), ("_gates", z)]
theorem pf1 {v : V} : putF "_lanes" v [] = g1 v := by rfl
theorem pf2 {l v : V} : putF "_around" v (g1 l) = g2 l v := by rfl
theorem pf3 {l d v : V} : putF "_ahead" v (g2 l d) = g3 l d v := by rfl
theorem pf4 {l d e v : V} : putF "_yards" v (g3 l d e) = g4 l d e v := by rfl
theorem pf5 {l d e y v : V} : putF "_gates" v (g4 l d e y) = g5 l d e y v := by rfl
/-! what is asked of a country -/
def spGet (C : Addr) (R : Hp → Lanes → Addr → Prop) : Sp := fun vs H Q _ => ∃ L p, vs = [.ref p] ∧ CAt C H p L ∧ ∀ q H', Ex H H' → H q = none → R H' L q → Q (.ref q) H'
def rLanesG (H' : Hp) (L : Lanes) (q : Addr) : Prop := ∃ M, LanesAt H' q M ∧ M.Perm (norm L) ∧ LexS M
def rYardsG (H' : Hp) (L : Lanes) (q : Addr) : Prop := H' q = some (.lst (vIs (yardsL L)))
def rGatesG (H' : Hp) (L : Lanes) (q : Addr) : Prop := H' q = some (.lst (vIs (gatesL L)))
def spPlace (C : Addr) : Sp := fun vs H Q _ => ∃ L p i, vs = [.ref p, vI i] ∧ CAt C H p L ∧ ∀ H', Ex H H' → Q (.bl (decide (i < L.length + 1))) H'
def spYard (C : Addr) : Sp := fun vs H Q _ => ∃ L p i, vs = [.ref p, vI i] ∧ CAt C H p L ∧ ∀ H', Ex H H' → Q (.bl (decide (i ∈ yardsL L))) H'
def spNbs (C : Addr) : Sp := fun vs H Q _ => ∃ L p i, vs = [.ref p, vI i] ∧ CAt C H p L ∧ i < L.length + 1 ∧ ∀ q H', Ex H H' → H q = none → H' q = some (.lst (vIs (adj L i))) → Q (.ref q) H'
def spIsNb (C : Addr) : Sp := fun vs H Q _ => ∃ L p i j, vs = [.ref p, vI i, vI j] ∧ CAt C H p L ∧ i < L.length + 1 ∧ ∀ H', Ex H H' → Q (.bl (decide (j ∈ adj L i))) H'
def spNext (C : Addr) : Sp := fun vs H Q _ => ∃ L vt p i goal, vs = [.ref p, vI i, vI goal] ∧ CAt C H p L ∧ Good vt L ∧ i ≠ goal ∧ i < L.length + 1 ∧ goal < L.length + 1 ∧ ∀ h r, Path L i goal (i :: h :: r) → Q (vI h) H
def spCheckC (C : Addr) : Sp := fun vs H Q _ => ∃ L p, vs = [.ref p] ∧ CAt C H p L ∧ ∀ H', Ex H H' → Q .non H'
def spCheckY (C : Addr) : Sp := fun vs H Q _ => ∃ L p i, vs = [.ref p, vI i] ∧ CAt C H p L ∧ i ∈ yardsL L ∧ ∀ H', Ex H H' → Q .non H'
def spCheckT (C : Addr) : Sp := fun vs H Q _ => ∃ L p i j, vs = [.ref p, vI i, vI j] ∧ CAt C H p L ∧ i < L.length + 1 ∧ j ∈ adj L i ∧ ∀ H', Ex H H' → Q .non H'
def spBehind (C : Addr) : Sp := fun vs H Q _ => ∃ L vt N p y t, vs = [.ref p, vI y, vI t] ∧ CAt C H p L ∧ Good vt L ∧ IsNext vt L N ∧ y ∈ yardsL L ∧ t ∈ adj L y ∧
  ∀ q H', Ex H H' → H q = none → H' q = some (.lst (vIs ((yardsL L).filter (beh N y t)))) → Q (.ref q) H'
theorem inV_vIs : ∀ (l : List Nat) (i : Nat), inV (vI i) (vIs l) = decide (i ∈ l)
  | [], i => rfl
  | a :: l, i => by
    have ih := inV_vIs l i
    have e : inV (vI i) (vIs (a :: l)) = (((a : Int) == (i : Int)) || inV (vI i) (vIs l)) := by rfl
    rw [e, ih]
    by_cases h : a = i
    · subst h
      simp
    · have : ((a : Int) == (i : Int)) = false := by
        rw [beq_eq_false_iff_ne]
        omega
      have h2 : ¬ i = a := fun z => h z.symm
      simp [this, h2]
theorem flat_vIs (l : List Nat) : (vIs l).all flatV = true := by
  rw [List.all_eq_true]
  intro x hx
  obtain ⟨_, _, e⟩ := List.mem_map.mp hx
  rw [← e]
  rfl
open Evl (Ev EvT) in
open Ep in
/-- [g u for u in l if f u] over places that stand in a list -/
theorem lcF {wi : TI} {g : TG} {tt : TT} {te : TE} {vs : List Nat} {σ : L2.St} {H : Hp} {l : List Nat} (s : Src wi σ H (vIs l).length (fun i v => (vIs l)[i]? = some v)) (hn : l.length ≤ 50000) (st : V → L2.St) (hw : ∀ x, wipe (st x) vs = wipe σ vs)
    (hg : ∀ x H1 Q, Ex H H1 → Q (st x) H1 → g x (wipe σ vs) H1 Q) (f : Nat → Bool) (v : Nat → V)
    (ht : ∀ u H1, u ∈ l → Ex H H1 → EvT tt (st (vI u)) H1 (f u)) (he : ∀ u H1, u ∈ l → Ex H H1 → f u = true → Ev te (st (vI u)) H1 (v u)) :
    EvP (tLc wi g tt te vs) σ H (NewL ((l.filter f).map v)) := by
  have at_ : ∀ {i : Nat} {x : V}, i < (vIs l).length → (vIs l)[i]? = some x → x = vI (l.getD i 0) ∧ l.getD i 0 ∈ l := fun {i x} hi hx => by
    have hi2 : i < l.length := by rw [List.length_map] at hi; exact hi
    rw [List.getElem?_map, List.getElem?_eq_getElem hi2] at hx
    rw [List.getD_eq_getElem?_getD, List.getElem?_eq_getElem hi2]
    exact ⟨(Option.some.inj hx).symm, List.getElem_mem hi2⟩
  refine EvP.imp (P := NewL (((List.range (vIs l).length).filter fun i => f (l.getD i 0)).map fun i => v (l.getD i 0))) (lcV s (by rw [List.length_map]; exact hn) (fun _ x => st x) (fun _ x => hw x) (fun _ x H1 Q e _ _ q => hg x H1 Q e q) (fun i => f (l.getD i 0)) (fun i => v (l.getD i 0)) (fun i x H1 e hi hx => ?_) (fun i x H1 e hi hx hf => ?_)) (fun z Ha Hb _ _ h => ?_)
  · obtain ⟨ex, m⟩ := at_ hi hx
    subst ex
    exact ht _ H1 m e
  · obtain ⟨ex, m⟩ := at_ hi hx
    subst ex
    exact he _ H1 m e hf
  · obtain ⟨q, rfl, hq, h⟩ := h
    refine ⟨q, rfl, hq, ?_⟩
    rw [h, List.length_map]
    have e : l = (List.range l.length).map fun i => l.getD i 0 := by
      refine List.ext_getElem (by simp) fun i h1 h2 => ?_
      rw [List.getElem_map, List.getElem_range, List.getD_eq_getElem?_getD, List.getElem?_eq_getElem h1]
      rfl
    conv => rhs; rw [e, List.filter_map]
    rw [List.map_map]
    rfl
/-! ### what a law draws -/
def PotAt (H : Hp) (p : Addr) : Prop := ∃ a b : Int, H p = some (.lst [.int a, .int b]) ∧ 0 ≤ a ∧ 0 ≤ b ∧ b < 4294967296
/-- all but p stays -/
def ExB (p : Addr) (H H' : Hp) : Prop := ∀ b o, H b = some o → b ≠ p → H' b = some o
theorem ExB.of {p : Addr} {H H' : Hp} (e : Ex H H') : ExB p H H' := fun b o h _ => e b o h
theorem ExB.trans {p : Addr} {H H1 H2 : Hp} (a : ExB p H H1) (b : ExB p H1 H2) : ExB p H H2 := fun c o h n => b c o (a c o h n) n
theorem ExB.put {p : Addr} {H : Hp} {o : HO} : ExB p H (upd H p o) := fun b u h n => by rw [upd_ne n]; exact h
theorem ExB.free {p q : Addr} {H H' : Hp} (e : ExB p H H') (h : H' q = none) (n : q ≠ p) : H q = none := by
  cases k : H q with
  | none => rfl
  | some o => rw [e q o k n] at h; cases h
def spPot (K : PySem.W.Frag) : Sp := fun vs H Q _ => ∃ (a : Addr) (ns : List Int) (k : Nat), vs = [.ref a, vI k] ∧ SqL K H a (ns.map V.int) ∧ k ≤ 1000 ∧ ∀ p H', Ex H H' → H p = none → PotAt H' p → Q (.ref p) H'
def spDraw : Sp := fun vs H Q _ => ∃ p m, vs = [.ref p, vI m] ∧ PotAt H p ∧ 0 < m ∧ m ≤ 2000 ∧ ∀ d H', d < m → PotAt H' p → ExB p H H' → Q (vI d) H'
def spPick : Sp := fun vs H Q _ => ∃ p a l, vs = [.ref p, .ref a] ∧ PotAt H p ∧ H a = some (.lst (vIs l)) ∧ a ≠ p ∧ 0 < l.length ∧ l.length ≤ 2000 ∧ ∀ x H', x ∈ l → PotAt H' p → ExB p H H' → Q (vI x) H'
def spBeside : Sp := fun vs H Q _ => ∃ L a i, vs = [.ref a, vI i] ∧ LanesAt H a L ∧ L.length ≤ 1000 ∧ ∀ p H', Ex H H' → H p = none → H' p = some (.lst (vIs (adj L i))) → Q (.ref p) H'
def spYardsOf : Sp := fun vs H Q _ => ∃ L a, vs = [.ref a] ∧ LanesAt H a L ∧ L.length ≤ 1000 ∧ ∀ p H', Ex H H' → H p = none → H' p = some (.lst (vIs (yardsL L))) → Q (.ref p) H'
theorem PotAt.exB {p q : Addr} {H H' : Hp} (e : ExB q H H') (n : p ≠ q) (h : PotAt H p) : PotAt H' p := by
  obtain ⟨a, b, h, r⟩ := h
  exact ⟨a, b, e _ _ h n, r⟩
theorem PotAt.ex {p : Addr} {H H' : Hp} (e : Ex H H') (h : PotAt H p) : PotAt H' p := by
  obtain ⟨a, b, h, r⟩ := h
  exact ⟨a, b, e _ _ h, r⟩
theorem PotAt.ne {p q : Addr} {H : Hp} {o : HO} (h : PotAt H p) (hq : H q = some o) (n : ∀ a b : Int, o ≠ .lst [.int a, .int b]) : q ≠ p := by
  obtain ⟨a, b, h, r⟩ := h
  exact ne_of hq h (n a b)
open Evl (Ev EvT) in
open Ep in
/-- [v q for a, b in lanes if f q] -/
theorem lcL {wi : TI} {g : TG} {tt : TT} {te : TE} {vs : List Nat} {σ : L2.St} {H : Hp} {ls : List V} {L : Lanes} (s : Src wi σ H ls.length (fun i v => ls[i]? = some v)) (hp : Paired (PairAt H) ls L) (hn : L.length ≤ 50000) (st : Nat × Nat → L2.St) (hw : ∀ q, wipe (st q) vs = wipe σ vs)
    (hg : ∀ q t H1 Q, Ex H H1 → H1 t = some (.tup [vI q.1, vI q.2]) → Q (st q) H1 → g (.ref t) (wipe σ vs) H1 Q) (f : Nat × Nat → Bool) (v : Nat × Nat → V)
    (ht : ∀ q H1, q ∈ L → Ex H H1 → EvT tt (st q) H1 (f q)) (he : ∀ q H1, q ∈ L → Ex H H1 → f q = true → Ev te (st q) H1 (v q)) :
    EvP (tLc wi g tt te vs) σ H (NewL ((L.filter f).map v)) := by
  have hll : ls.length = L.length := PySem.Paired.length hp
  have at_ : ∀ {i : Nat} {x : V}, ls[i]? = some x → ∃ t, x = .ref t ∧ H t = some (.tup [vI (L.getD i (0, 0)).1, vI (L.getD i (0, 0)).2]) ∧ L.getD i (0, 0) ∈ L := fun {i x} hx => by
    obtain ⟨q, hq, t, r, k⟩ := paired_ix hp hx
    have : L.getD i (0, 0) = q := by rw [List.getD_eq_getElem?_getD, hq]; rfl
    exact ⟨t, r, this ▸ k, this ▸ List.mem_of_getElem? hq⟩
  refine EvP.imp (P := NewL (((List.range ls.length).filter fun i => f (L.getD i (0, 0))).map fun i => v (L.getD i (0, 0)))) (lcV s (by omega) (fun i _ => st (L.getD i (0, 0))) (fun _ _ => hw _) (fun i x H1 Q e _ hx q => ?_) (fun i => f (L.getD i (0, 0))) (fun i => v (L.getD i (0, 0))) (fun i x H1 e _ hx => ?_) (fun i x H1 e _ hx hf => ?_)) (fun z Ha Hb _ _ h => ?_)
  · obtain ⟨t, rfl, k, _⟩ := at_ hx
    exact hg _ t H1 Q e (e _ _ k) q
  · obtain ⟨t, rfl, k, m⟩ := at_ hx
    exact ht _ H1 m e
  · obtain ⟨t, rfl, k, m⟩ := at_ hx
    exact he _ H1 m e hf
  · obtain ⟨q, rfl, hq, h⟩ := h
    refine ⟨q, rfl, hq, ?_⟩
    rw [h, hll]
    have e : L = (List.range L.length).map fun i => L.getD i (0, 0) := by
      refine List.ext_getElem (by simp) fun i h1 h2 => ?_
      rw [List.getElem_map, List.getElem_range, List.getD_eq_getElem?_getD, List.getElem?_eq_getElem h1]
      rfl
    conv => rhs; rw [e, List.filter_map]
    rw [List.map_map]
    rfl
theorem go_tup {K : PySem.W.Frag} {i j : Nat} {σ : L2.St} {H1 : Hp} {t : Addr} {q : Nat × Nat} {Q : L2.St → Hp → Prop} (h : H1 t = some (.tup [vI q.1, vI q.2])) (k : Q ((σ.set i (some (vI q.1))).set j (some (vI q.2))) H1) : gTup K 2 (gCons (gName i) (gCons (gName j) gNil)) (.ref t) σ H1 Q :=
  ⟨t, _, rfl, Evl.st_of h, rfl, _, _, rfl, _, _, rfl, rfl, k⟩
end Pr

set_option Elab.async false
set_option linter.all false
set_option maxRecDepth 100000
set_option maxHeartbeats 4000000
namespace K15
open PySem PySem.Spec PyProof.Rows L2 TM Pr Ep
open Evl (Ex Ev EvT EvA EvL)
section
variable {P : Program} {w : World} {K : PySem.W.Frag} {mg : Str → Option Value} {base : Heap} {A : Adr}
theorem ok_is_count (T : Txt K mg A) : FnOk P w K mg base CX0 1 A.is_count A.is_count_fd ["value"] spCount := by
  refine T.F_is_count.ok sc_is_count (fun vs H Q E h => ?_) (fun cdv A' outer s H vs Q E hr h => ?_)
  · obtain ⟨i, rfl, _⟩ := h
    rfl
  · obtain ⟨i, rfl, k⟩ := h
    refine ⟨_, (pss_one (ps_ret (pe_and (show PE _ _ (tCB (rIsi K) _) from (pe_callB (id := "isinstance") call_isi (by rfl) T.n_isinstance (by decide +kernel) (pa_cons (pv 0) (pa_cons (pe_bltn (v := .ty "int") (by rfl) T.n_int (by decide +kernel) rfl) pa_nil)))) (pe_and (pe_not (show PE _ _ (tCB (rIsi K) _) from (pe_callB (id := "isinstance") call_isi (by rfl) T.n_isinstance (by decide +kernel) (pa_cons (pv 0) (pa_cons (pe_bltn (v := .ty "bool") (by rfl) T.n_bool (by decide +kernel) rfl) pa_nil))))) (pe_one (pe_cmpR op_ge (pv 0) pe_int (nomark _))))))), ?_⟩
    refine ⟨_, rfl, _, _, _, _, true, rfl, .ty _, .base (.int i), (by rfl), true, rfl, iteT ?_⟩
    refine ⟨_, rfl, _, _, _, _, false, rfl, .ty _, .base (.int i), (by rfl), false, rfl, true, rfl, iteT ?_⟩
    exact ⟨_, rfl, i, 0, rfl, rfl, k⟩
theorem ok_is_row (T : Txt K mg A) : FnOk P w K mg base CX0 1 A.is_row A.is_row_fd ["value"] (spRow K) := by
  refine T.F_is_row.ok sc_is_row (fun vs H Q E h => ?_) (fun cdv A' outer s H vs Q E hr h => ?_)
  · obtain ⟨a, xs, rfl, _⟩ := h
    rfl
  · obtain ⟨a, xs, rfl, hx, k⟩ := h
    refine ⟨_, (pss_one (ps_ret (show PE _ _ (tCB (rIsiT K) _) from (pe_callB (id := "isinstance") call_isiT (by rfl) T.n_isinstance (by decide +kernel) (pa_cons (pv 0) (pa_cons (pe_tup (pa_cons (pe_bltn (v := .ty "list") (by rfl) T.n_list (by decide +kernel) rfl) (pa_cons (pe_bltn (v := .ty "tuple") (by rfl) T.n_tuple (by decide +kernel) rfl) pa_nil))) pa_nil)))))), ?_⟩
    refine ⟨_, rfl, by decide, fun p hp => ?_⟩
    have e := Ex.new (o := .tup [.ty "list", .ty "tuple"]) hp
    rcases hx with hx | hx
    · exact ⟨_, p, _, _, _, true, rfl, upd_same, .cons (.ty _) (.cons (.ty _) .nil), .base (.lst (e _ _ hx)), (by rfl), k _ e⟩
    · exact ⟨_, p, _, _, _, true, rfl, upd_same, .cons (.ty _) (.cons (.ty _) .nil), .base (.tup (e _ _ hx)), (by rfl), k _ e⟩
theorem ok_is_pair_up_to (T : Txt K mg A) : FnOk P w K mg base CX0 2 A.is_pair_up_to A.is_pair_up_to_fd ["value", "last"] spPair := by
  refine T.F_is_pair_up_to.ok sc_is_pair_up_to (fun vs H Q E h => ?_) (fun cdv A' outer s H vs Q E hr h => ?_)
  · obtain ⟨t, p, last, rfl, _⟩ := h
    rfl
  · obtain ⟨t, p, last, rfl, ht, k⟩ := h
    refine ⟨_, (pss_one (ps_ret (pe_and (pe_call (ok_is_row T) (hr.mono (by decide)) (by rfl) T.m_is_row T.F_is_row.kp T.b_is_row .nil pass0 (pa_cons (pv 0) pa_nil)) (pe_and (pe_cmpR op_eq (show PE _ _ (tCB (rLenA K) _) from (pe_callB (id := "len") call_len (by rfl) T.n_len (by decide +kernel) (pa_cons (pv 0) pa_nil))) pe_int (nomark _)) (pe_one (show PE _ _ (tCB (rAll K) _) from (pe_callB (id := "all") (cr_all rfl) (by rfl) T.n_all (by decide +kernel) (pa_cons (pe_lc (own := [("place", 2)]) rfl sc_is_pair_up_to.nd (show PI _ _ _ (iTup K _) from pi_tup (pv 0)) (blkOk_by (N := n_is_pair_up_to) (sc := defScope s_is_pair_up_to) (by decide +kernel)) (fun _ _ _ _ _ => (pg_name (i := 2) sc_is_pair_up_to.nd rfl (Or.inl rfl))) (fun _ _ _ _ _ => pts_nil) (fun _ _ _ _ _ => (pe_and (pe_call (ok_is_count T) (hr.mono (by decide)) (by rfl) T.m_is_count T.F_is_count.kp T.b_is_count .nil pass0 (pa_cons (pv 2) pa_nil)) (pe_one (pe_cmpR op_le (pv 2) (pv 1) (nomark _)))))) pa_nil)))))))), ?_⟩
    refine ⟨_, rfl, _, _, rfl, .inr ht, fun H1 e1 => ⟨true, rfl, iteT ?_⟩⟩
    refine ⟨_, rfl, _, 2, rfl, .inr ⟨_, Evl.st_of (e1 _ _ ht), rfl⟩, rfl, true, rfl, iteT ?_⟩
    refine cb_one (lcV (src_tup (K := K) (Evl.ev_var (v := .ref t) rfl) (Evl.st_of (e1 _ _ ht))) (by show 2 ≤ 50000; decide) (fun i x => [some (.ref t), some (vI last), some x]) (fun _ _ => rfl) (fun _ _ _ _ _ _ _ q => q) (fun _ => true)
      (fun i => .bl (decide ((if i = 0 then p.1 else p.2) ≤ last))) (fun _ _ _ _ _ _ => fun H1 e Q q => q H1 (Ex.refl _)) (fun i x H2 e2 hi hx _ => ?_)) fun v H2 e2 hv => ?_
    · have ex : x = vI (if i = 0 then p.1 else p.2) := by
        match i, hi, hx with
        | 0, _, hx => exact (Option.some.inj hx).symm
        | 1, _, hx => exact (Option.some.inj hx).symm
      subst ex
      intro H3 e3 Q q
      refine ⟨_, rfl, _, rfl, true, ?_, iteT ?_⟩
      · rw [decide_eq_true (Int.natCast_nonneg _)]
      · refine ⟨_, rfl, _, rfl, _, _, rfl, rfl, ?_⟩
        have z := q H3 (Ex.refl _)
        have d : decide (((if i = 0 then p.1 else p.2 : Nat) : Int) ≤ (last : Int)) = decide ((if i = 0 then p.1 else p.2) ≤ last) := by
          by_cases c : (if i = 0 then p.1 else p.2) ≤ last
          · rw [decide_eq_true c, decide_eq_true (Int.ofNat_le.mpr c)]
          · rw [decide_eq_false c, decide_eq_false (fun z => c (Int.ofNat_le.mp z))]
        show Q (V.bl (decide (((if i = 0 then p.1 else p.2 : Nat) : Int) ≤ (last : Int)))) H3
        rw [d]
        exact z
    · obtain ⟨D, rfl, _, hD⟩ := hv
      refine ⟨D, [decide (p.1 ≤ last), decide (p.2 ≤ last)], rfl, Evl.sq_of hD, ?_⟩
      have z := k H2 (e1.trans e2)
      show Q (V.bl (decide (p.1 ≤ last) && (decide (p.2 ≤ last) && true))) H2
      rw [Bool.and_true]
      exact z
end
end K15

set_option Elab.async false
set_option linter.all false
set_option maxRecDepth 100000
set_option maxHeartbeats 4000000
namespace K15
open PySem PySem.Spec PyProof.Rows L2 TM Pr Ep
open Evl (Ex Ev EvT EvA EvL)
section
variable {P : Program} {w : World} {K : PySem.W.Frag} {mg : Str → Option Value} {base : Heap} {A : Adr}
theorem ok_neighbours_by_place (T : Txt K mg A) : FnOk P w K mg base CX0 1 A.neighbours_by_place A.neighbours_by_place_fd ["lanes"] spNeigh := by
  refine T.F_neighbours_by_place.ok sc_neighbours_by_place (fun vs H Q E h => ?_) (fun cdv A' outer s H vs Q E hr h => ?_)
  · obtain ⟨a, L, rfl, _⟩ := h
    rfl
  · obtain ⟨a, L, rfl, hL, hb, hlen, k⟩ := h
    have hu := hu_of hr
    refine ⟨_, (pss_cons (ps_set (i := 1) sc_neighbours_by_place.nd rfl (Or.inr rfl) (pe_dc (own := [("place", 4)]) rfl sc_neighbours_by_place.nd (pi_range1 (by rfl) T.n_range (pa_cons (pe_op op_add (show PE _ _ (tCB (rLenA K) _) from (pe_callB (id := "len") call_len (by rfl) T.n_len (by decide +kernel) (pa_cons (pv 0) pa_nil))) pe_int) pa_nil)) (blkOk_by (N := n_neighbours_by_place) (sc := defScope s_neighbours_by_place) (by decide +kernel)) (fun _ _ _ _ _ => (pg_name (i := 4) sc_neighbours_by_place.nd rfl (Or.inl rfl))) (fun _ _ _ _ _ => pts_nil) (fun _ _ _ _ _ => (pv 4)) (fun _ _ _ _ _ => (pe_lst pa_nil)))) (pss_cons (ps_for PassesOwn.never rfl (show PI _ _ _ (iList K _) from pi_list (pv 0)) (show PG _ _ (gTup K 2 _) from pg_tup rfl (pgs_cons (pg_name (i := 2) sc_neighbours_by_place.nd rfl (Or.inl rfl)) (pgs_cons (pg_name (i := 3) sc_neighbours_by_place.nd rfl (Or.inl rfl)) pgs_nil))) (pss_cons (ps_expr (show PE _ _ (tBM K "list" rAppend _ _) from pe_bm PySem.F.plainAttrs_list PySem.F.slot_list_append PySem.F.type_list_append mt_append (pe_dget hu (pv 1) (pv 2) (fun _ _ => rfl)) (pa_cons (pv 3) pa_nil))) (pss_one (ps_expr (show PE _ _ (tBM K "list" rAppend _ _) from pe_bm PySem.F.plainAttrs_list PySem.F.slot_list_append PySem.F.type_list_append mt_append (pe_dget hu (pv 1) (pv 3) (fun _ _ => rfl)) (pa_cons (pv 2) pa_nil)))))) (pss_one (ps_ret (pe_lock (pe_dc (own := [("place", 4)]) rfl sc_neighbours_by_place.nd (pi_keys (pv 1)) (blkOk_by (N := n_neighbours_by_place) (sc := defScope s_neighbours_by_place) (by decide +kernel)) (fun _ _ _ _ _ => (pg_name (i := 4) sc_neighbours_by_place.nd rfl (Or.inl rfl))) (fun _ _ _ _ _ => pts_nil) (fun _ _ _ _ _ => (pv 4)) (fun _ _ _ _ _ => (show PE _ _ (tCB (rSortedI K) _) from (pe_callB (id := "sorted") cr_sortedI (by rfl) T.n_sorted (by decide +kernel) (pa_cons (pe_dget hu (pv 1) (pv 4) (fun _ _ => rfl)) pa_nil)))))))))), ?_⟩
    obtain ⟨ls, ha, hp⟩ := hL
    have hll : ls.length = L.length := PySem.Paired.length hp
    -- around = {place: [] ..}
    refine p_asg (dcI (n := L.length + 1) (src_rng1 (n := L.length + 1) ?_ (by omega)) (by omega) (fun i x => [some (.ref a), none, none, none, some x]) (fun _ _ => rfl)
      (fun D i ys H' => ∃ rs : List Addr, ys = rs.map V.ref ∧ rs.Nodup ∧ rs.length = i ∧ ∀ r ∈ rs, r ≠ D ∧ H r = none ∧ H' r = some (HO.lst [])) (fun _ _ _ _ _ _ _ q => q) keyN (fun i j h1 h2 e => ?_) (fun i x H1 _ _ hx => ?_) (fun _ => NewL []) (fun i x H1 _ _ _ => ?_) (fun D H1 _ _ => ?_) (fun D i ys Ha Hb e h => ?_) (fun D i ys v Ha Hb kvs e1 e2 hD hi h p xs => ?_)) fun v H1 e1 hv => ?_
    · intro H1 e1 Q' q
      refine ⟨_, rfl, _, ls.length, rfl, .inl ⟨_, Evl.sq_of (e1 _ _ ha), rfl⟩, _, _, rfl, rfl, ?_⟩
      have z := q H1 (Ex.refl _)
      rw [hll]
      exact z
    · injection e with e
      omega
    · subst hx
      exact Evl.ev_var rfl
    · exact evp_lst Evl.ea_nil (by decide)
    · exact ⟨[], rfl, List.nodup_nil, rfl, fun r hr => nomatch hr⟩
    · obtain ⟨rs, h1, h2, h3, h4⟩ := h
      exact ⟨rs, h1, h2, h3, fun r hr => ⟨(h4 r hr).1, (h4 r hr).2.1, e _ _ (h4 r hr).2.2⟩⟩
    · obtain ⟨rs, h1, h2, h3, h4⟩ := h
      obtain ⟨q, rfl, hq, hq2⟩ := p
      have qD : q ≠ D := fun z => by rw [z, hD] at hq; cases hq
      refine ⟨rs ++ [q], by rw [h1, List.map_append]; rfl, ?_, by simp [h3], fun r hr => ?_⟩
      · refine List.nodup_append.mpr ⟨h2, by simp, fun x hx y hy z => ?_⟩
        have : y = q := by simpa using hy
        subst this
        subst z
        have z2 := (h4 x hx).2.2
        rw [hq] at z2
        cases z2
      · rcases List.mem_append.mp hr with hr | hr
        · refine ⟨(h4 r hr).1, (h4 r hr).2.1, ?_⟩
          rw [upd_ne (h4 r hr).1]
          exact e2 _ _ (h4 r hr).2.2
        · have : r = q := by simpa using hr
          subst this
          refine ⟨qD, Evl.fresh_back e1 hq, ?_⟩
          rw [upd_ne qD]
          exact hq2
    · obtain ⟨d, ys, rfl, hd0, hd, hyl, rs, rfl, nd, hrl, hrs⟩ := hv
      -- for one, other in lanes
      have hm : ∀ {j : Nat}, j ≤ L.length → j < L.length + 1 := fun h => by omega
      refine Evl.q_forL (K := K) (a := a) (xs := ls) (Evl.ev_var rfl) (Evl.sq_of (e1 _ _ ha)) (fun i σ' H' => ∃ y2 y3, σ' = [some (.ref a), some (.ref d), y2, y3, none] ∧ Ex H H' ∧ H' d = some (dkOf (L.length + 1) rs) ∧ RowsAt H' (L.length + 1) rs (fun j => nbP (L.take i) j))
        (fun H2 e2 => ⟨none, none, rfl, e1.trans e2, e2 _ _ hd, hrl, fun i r hi => e2 _ _ (hrs r (List.mem_of_getElem? hi)).2.2⟩) (fun i σ' H' _ ⟨_, _, _, e, _⟩ => Evl.sq_of (e _ _ ha)) (fun i x σ' H2 hi h => ?_) (fun σ' H2 h => ?_)
      · obtain ⟨y2, y3, rfl, e2, hd2, R⟩ := h
        obtain ⟨⟨o1, o2⟩, hpi, t, rfl, ht⟩ := paired_ix hp hi
        obtain ⟨b1, b2⟩ := hb _ (List.mem_of_getElem? hpi)
        have b1 : o1 < L.length + 1 := hm b1
        have b2 : o2 < L.length + 1 := hm b2
        refine ⟨t, _, rfl, Evl.st_of (e2 _ _ ht), rfl, _, _, rfl, _, _, rfl, rfl, ?_⟩
        obtain ⟨r1, q1, h1, v1⟩ := R.get b1
        have f1 : H r1 = none := (hrs r1 (List.mem_of_getElem? q1)).2.1
        have nd1 : r1 ≠ d := (hrs r1 (List.mem_of_getElem? q1)).1
        have n1 : (vIs (nbP (L.take i) o1)).length < sizeLine := by
          rw [List.length_map]
          have := nbP_len (L.take i) o1
          have : (L.take i).length ≤ L.length := by rw [List.length_take]; omega
          exact szN (by omega)
        refine ⟨_, rfl, _, rfl, d, _, rfl, .inl ⟨_, keyN o1, .inl hd2, rfl, v1.symm⟩, .inl ⟨rfl, _, .inl (.inl h1)⟩, _, rfl, r1, _, _, rfl, rfl, h1, n1, ?_⟩
        have R1 := R.app nd (x := o2) q1
        have e3 : Ex H (upd H2 r1 (.lst (vIs (nbP (L.take i) o1) ++ [vI o2]))) := Ex.mut e2 f1
        generalize hH3 : upd H2 r1 (.lst (vIs (nbP (L.take i) o1) ++ [vI o2])) = H3 at R1 e3
        have hd3 : H3 d = some (dkOf (L.length + 1) rs) := by
          rw [← hH3, upd_ne nd1.symm]
          exact hd2
        obtain ⟨r2, q2, h2, v2⟩ := R1.get b2
        have f2 : H r2 = none := (hrs r2 (List.mem_of_getElem? q2)).2.1
        have nd2 : r2 ≠ d := (hrs r2 (List.mem_of_getElem? q2)).1
        have n2 : (vIs (nbP (L.take i) o2 ++ if o1 = o2 then [o2] else [])).length < sizeLine := by
          rw [List.length_map, List.length_append]
          have := nbP_len (L.take i) o2
          have : (L.take i).length ≤ L.length := by rw [List.length_take]; omega
          have : (if o1 = o2 then [o2] else []).length ≤ 1 := by split <;> simp
          exact szN (by omega)
        refine ⟨_, rfl, _, rfl, d, _, rfl, .inl ⟨_, keyN o2, .inl hd3, rfl, v2.symm⟩, .inl ⟨rfl, _, .inl (.inl h2)⟩, _, rfl, r2, _, _, rfl, rfl, h2, n2, ?_⟩
        have R2 := R1.app nd (x := o1) q2
        refine ⟨_, _, rfl, Ex.mut e3 f2, by rw [upd_ne nd2.symm]; exact hd3, R2.congr fun j _ => ?_⟩
        rw [take_more hpi, nbP_snoc]
        simp only [List.append_assoc]
      · obtain ⟨y2, y3, rfl, e2, hd2, R⟩ := h
        rw [hll, List.take_length] at R
        -- return {place: sorted(around[place]) for place in around}
        refine p_ret (P := fun v Ha Hb => ∃ p, v = .ref p ∧ Ha p = none ∧ AroundAt Hb p (L.length + 1) (adj L)) (evp_lock (d := d) (u := dkOf (L.length + 1) rs) hd2 trivial (P := fun v Ha Hb => ∃ p qs, v = .ref p ∧ Ha p = none ∧ p ≠ d ∧ Hb p = some (dkOf (L.length + 1) qs) ∧ RowsAt Hb (L.length + 1) qs (adj L) ∧ ∀ r ∈ qs, r ≠ d) (fun Ha od ea => ?_) (fun v Ha Hb od ea eb h => ?_)) (fun v H3 e3 h => ?_)
        · have hd3 : Ha d = some (dkOf (L.length + 1) rs) := ea _ _ hd2
          have R3 := (R.ex ea).lock hd3 od
          have hkl : ((keysN (L.length + 1)).zip (rs.map V.ref)).length = L.length + 1 := by
            rw [List.length_zip, keysN_length, List.length_map, hrl, Nat.min_self]
          have src := src_keys (σ := [some (.ref a), some (.ref d), y2, y3, none]) (H := upd Ha d (.frz od (dkOf (L.length + 1) rs))) (td := tVar 1) (d := d) (o := od) (Evl.ev_var rfl) upd_same
          rw [hkl] at src
          have hX : ∀ {i : Nat} {x : V}, i < L.length + 1 → (∃ k z, ((keysN (L.length + 1)).zip (rs.map V.ref))[i]? = some (k, z) ∧ x = kV k) → x = vI i := fun {i x} hi h => by
            obtain ⟨k, z, e1, e2⟩ := h
            have := List.getElem?_zip_eq_some.mp e1
            rw [keysN_at hi] at this
            obtain ⟨e3, _⟩ := this
            cases e3
            exact e2
          refine (dcI src (by omega) (fun i x => [some (.ref a), some (.ref d), y2, y3, some x]) (fun _ _ => rfl)
            (fun D i ys H' => D ≠ d ∧ ∃ qs : List Addr, ys = qs.map V.ref ∧ qs.length = i ∧ (∀ r ∈ qs, r ≠ D ∧ r ≠ d) ∧ ∀ j r, qs[j]? = some r → H' r = some (HO.lst (vIs (adj L j)))) (fun _ _ _ _ _ _ _ q => q) keyN (fun i j h1 h2 e => ?_) (fun i x H1 _ hi hx => ?_) (fun i => NewL (vIs (adj L i))) (fun i x H1 e4 hi hx => ?_) (fun D H1 e4 hD => ?_) (fun D i ys Ha Hb e h => ?_) (fun D i ys v Ha' Hb' kvs e4 e5 hD hi h p xs => ?_)).imp ?_
          · injection e with e
            omega
          · cases hX hi hx
            exact Evl.ev_var rfl
          · cases hX hi hx
            intro H5 e5 Q' q'
            obtain ⟨r, hr, h5, v5⟩ := R3.get hi
            refine ⟨_, rfl, _, rfl, d, _, rfl, .inl ⟨_, keyN i, .inr ⟨od, e5 _ _ (e4 _ _ upd_same)⟩, rfl, v5.symm⟩, ?_⟩
            refine ⟨r, (nbP L i).map fun (n : Nat) => (n : Int), rfl, ?_, fun ns' p perm srt hp => ?_⟩
            · rw [← vIs_int]
              exact Evl.sq_of (e5 _ _ (e4 _ _ h5))
            · have := int_sorted perm srt
              rw [adjP] at this
              subst this
              rw [← vIs_int]
              exact q' _ _ (Ex.new hp) ⟨p, rfl, hp, upd_same⟩
          · refine ⟨fun z => ?_, [], rfl, rfl, (fun r hr => nomatch hr), (fun j r hr => by simp at hr)⟩
            subst z
            rw [e4 _ _ upd_same] at hD
            cases hD
          · obtain ⟨h0, qs, h1, h2, h3, h4⟩ := h
            exact ⟨h0, qs, h1, h2, h3, fun j r hr => e _ _ (h4 j r hr)⟩
          · obtain ⟨h0, qs, h1, h2, h3, h4⟩ := h
            obtain ⟨q, rfl, hq, hq2⟩ := p
            have qD : q ≠ D := fun z => by rw [z, hD] at hq; cases hq
            have qd : q ≠ d := fun z => by rw [z, e4 _ _ upd_same] at hq; cases hq
            refine ⟨h0, qs ++ [q], by rw [h1, List.map_append]; rfl, by simp [h2], fun r hr => ?_, fun j r hr => ?_⟩
            · rcases List.mem_append.mp hr with hr | hr
              · exact h3 r hr
              · have : r = q := by simpa using hr
                subst this
                exact ⟨qD, qd⟩
            · by_cases hj : j < qs.length
              · rw [List.getElem?_append_left hj] at hr
                rw [upd_ne (h3 r (List.mem_of_getElem? hr)).1]
                exact e5 _ _ (h4 j r hr)
              · rw [List.getElem?_append_right (by omega)] at hr
                have e0 : j - qs.length = 0 := by
                  have := (List.getElem?_eq_some_iff.mp hr).1
                  simp at this
                  omega
                rw [e0] at hr
                have : q = r := Option.some.inj hr
                subst this
                have ej : j = i := by omega
                subst ej
                rw [upd_ne qD]
                exact hq2
          · rintro v H1 H2 e4 e5 ⟨p, ys, rfl, hp0, hp1, hl, npd, qs, rfl, hql, h3, h4⟩
            exact ⟨p, qs, rfl, hp0, npd, hp1, ⟨hql, h4⟩, fun r hr => (h3 r hr).2⟩
        · obtain ⟨p, qs, rfl, hp0, npd, hp1, R3, nq⟩ := h
          refine ⟨p, rfl, ?_, qs, ?_, R3.len, fun i r hi => ?_⟩
          · rw [upd_ne npd] at hp0
            exact hp0
          · rw [upd_ne npd]
            exact hp1
          · rw [upd_ne (nq r (List.mem_of_getElem? hi))]
            exact R3.at_ i r hi
        · obtain ⟨p, rfl, hp0, hA⟩ := h
          exact k p H3 (e2.trans e3) (Evl.fresh_back e2 hp0) hA
end
end K15

set_option Elab.async false
set_option linter.all false
set_option maxRecDepth 100000
set_option maxHeartbeats 4000000
namespace Pr
open PySem PySem.Spec PyProof.Rows L2 TM
open Evl (Ex)
abbrev kvO (kvs : List (Nat × Nat)) : HO := .dK (kvs.map fun q => (keyN q.1, vI q.2))
theorem keyN_inj {a b : Nat} : keyN a = keyN b ↔ a = b := by
  constructor
  · intro h
    injection h with h
    omega
  · intro h
    rw [h]
theorem valV_kv : ∀ (kvs : List (Nat × Nat)) (y : Nat), valV (kvs.map fun q => (keyN q.1, vI q.2)) (keyN y) = (look kvs y).map vI
  | [], y => rfl
  | (a, b) :: kvs, y => by
    show valV ((keyN a, vI b) :: kvs.map fun q => (keyN q.1, vI q.2)) (keyN y) = _
    by_cases e : a = y
    · subst e
      rw [valV_pos rfl]
      simp [look]
    · rw [valV_neg (fun h => e (keyN_inj.mp h)), valV_kv kvs y]
      simp [look, List.find?_cons, e]
theorem look_none {kvs : List (Nat × Nat)} {y : Nat} : look kvs y = none ↔ y ∉ keys kvs := by
  constructor
  · intro h m
    obtain ⟨v, e⟩ := look_some m
    rw [h] at e
    cases e
  · intro h
    cases e : look kvs y with
    | none => rfl
    | some v =>
      obtain ⟨i, hi⟩ := look_ix e
      exact absurd (List.mem_map.mpr ⟨_, List.mem_of_getElem? hi, rfl⟩) h
end Pr
namespace K15
open PySem PySem.Spec PyProof.Rows L2 TM Pr Ep
open Evl (Ex Ev EvT EvA EvL)
section
variable {P : Program} {w : World} {K : PySem.W.Frag} {mg : Str → Option Value} {base : Heap} {A : Adr}
theorem ok_places_ahead (T : Txt K mg A) : FnOk P w K mg base CX0 1 A.places_ahead A.places_ahead_fd ["around", "goal"] spAhead := by
  refine T.F_places_ahead.ok sc_places_ahead (fun vs H Q E h => ?_) (fun cdv A' outer s H vs Q E hr h => ?_)
  · obtain ⟨L, d, goal, vt, rfl, _⟩ := h
    rfl
  · obtain ⟨L, d, goal, vt, rfl, g, hA, hg, hvt, hlen, k⟩ := h
    have hu := hu_of hr
    refine ⟨_, (pss_cons (ps_set (i := 2) sc_places_ahead.nd rfl (Or.inl rfl) pe_dnewK) (pss_cons (ps_set (i := 3) sc_places_ahead.nd rfl (Or.inl rfl) (pe_lst (pa_cons (pv 1) pa_nil))) (pss_cons (ps_while PassesOwn.never (pt_truth (pv 3) (by intro _; rfl)) (pss_cons (ps_set (i := 4) sc_places_ahead.nd rfl (Or.inl rfl) (show PE _ _ (tBM0 K "list" rPop _) from pe_bm0 PySem.F.plainAttrs_list PySem.F.slot_list_pop PySem.F.type_list_pop mt_pop (pv 3))) (pss_one (ps_for PassesOwn.never rfl (show PI _ _ _ (iList K _) from pi_list (pe_dget hu (pv 0) (pv 4) (fun _ _ => rfl))) (pg_name (i := 5) sc_places_ahead.nd rfl (Or.inl rfl)) (pss_one (ps_if (PW.pt (pw_and (pt_cmpR op_ne (pv 5) (pv 1) (nomark _)) (pw_and1 (pt_cmp (pc_dnotin hu (pv 5) (pv 2)))))) (pss_cons (ps_dput hu (pv 2) (pv 5) (pv 4) rfl) (pss_one (ps_expr (show PE _ _ (tBM K "list" rAppend _ _) from pe_bm PySem.F.plainAttrs_list PySem.F.slot_list_append PySem.F.type_list_append mt_append (pv 3) (pa_cons (pv 5) pa_nil))))) pss_nil)))))) (pss_one (ps_ret (pv 2)))))), ?_⟩
    -- ahead = {}; waiting = [goal]
    refine p_asg evp_dnew fun v H1 e1 hv => ?_
    obtain ⟨p, rfl, hp, hp1⟩ := hv
    refine p_asg (evp_lst (vs := [vI goal]) (Evl.ea_cons (Evl.ev_var rfl) Evl.ea_nil) (by show 1 ≤ 100000; decide)) fun v H2 e2 hv => ?_
    obtain ⟨q, rfl, hq, hq2⟩ := hv
    have npq : p ≠ q := ne_of_none hp1 hq
    have fq : H q = none := Evl.fresh_back e1 hq
    have e0 : Ex H H2 := e1.trans e2
    have hp2 := e2 _ _ hp1
    have vl := g.length
    obtain ⟨rs, hd0, R0⟩ := hA
    refine Evl.q_while (fun m σ' H' => ∃ kvs wt y4 y5, σ' = [some (.ref d), some (vI goal), some (.ref p), some (.ref q), y4, y5] ∧ Ex H H' ∧ H' p = some (kvO kvs) ∧ H' q = some (.lst (vIs wt)) ∧ DOut L goal kvs wt ∧ m = 2 * (vt.length - kvs.length) + wt.length ∧ 2 * (vt.length - kvs.length) + wt.length ≤ 2 * vt.length + 1) (2 * (vt.length - 0) + 1)
      ⟨[], [goal], none, none, rfl, e0, hp2, hq2, DOut.start L goal, rfl, by simp⟩ (fun m σ' H' h => ?_)
    obtain ⟨kvs, wt, y4, y5, rfl, e1, hp1, hq1, D, rfl, hsz⟩ := h
    refine ⟨!wt.isEmpty, fun H2 e2 Q' q' => ⟨_, rfl, !wt.isEmpty, .inl ⟨_, Evl.sq_of (e2 _ _ hq1), ?_⟩, q' _ (Ex.refl _)⟩, fun hb H2 e2 => ?_, fun hb H2 e2 => ?_⟩
    · cases wt <;> rfl
    · -- a turn
      obtain ⟨here, wt', rfl⟩ : ∃ here wt', wt = wt' ++ [here] := by
        rcases List.eq_nil_or_concat wt with e | ⟨a, b, e⟩
        · subst e; cases hb
        · exact ⟨b, a, by rw [e, List.concat_eq_append]⟩
      have DI := D.pop
      have e3 := e1.trans e2
      have hp2 := e2 _ _ hp1
      have hq2 := e2 _ _ hq1
      have hin : here ∈ vt := by
        rcases DI.me with e | e
        · exact e ▸ hg
        · obtain ⟨pr, hpr, e⟩ := List.mem_map.mp e
          obtain ⟨j, hj⟩ := List.getElem?_of_mem hpr
          exact e ▸ (g.ends (DI.told.ord j pr.1 pr.2 hj).1).2
      refine ⟨fun σ2 H3 => ∃ kvs' wt2 y4 y5, σ2 = [some (.ref d), some (vI goal), some (.ref p), some (.ref q), y4, y5] ∧ Ex H H3 ∧ H3 p = some (kvO kvs') ∧ H3 q = some (.lst (vIs wt2)) ∧ DOut L goal kvs' wt2 ∧ 2 * (vt.length - kvs'.length) + wt2.length < 2 * (vt.length - kvs.length) + (wt' ++ [here]).length,
        fun σ2 H3 ⟨kvs', wt2, y4, y5, h1, h2, h3, h4, h5, h6⟩ => ⟨_, h6, kvs', wt2, y4, y5, h1, h2, h3, h4, h5, rfl, by omega⟩, ?_⟩
      -- here = waiting.pop()
      refine ⟨_, rfl, .inl ⟨rfl, _, .inl (.inl hq2)⟩, q, _, vI here, rfl, rfl, hq2, ?_, ?_⟩
      · simp [vIs]
      have hdl : (vIs (wt' ++ [here])).dropLast = vIs wt' := by simp [vIs]
      rw [hdl]
      have e4 : Ex H (upd H2 q (.lst (vIs wt'))) := Ex.mut e3 fq
      have hp4 : (upd H2 q (.lst (vIs wt'))) p = some (kvO kvs) := by rw [upd_ne npq]; exact hp2
      have hq4 : (upd H2 q (.lst (vIs wt'))) q = some (.lst (vIs wt')) := upd_same
      generalize upd H2 q (.lst (vIs wt')) = H4 at e4 hp4 hq4
      obtain ⟨r, hr1, hrH, vr⟩ := R0.get (hvt _ hin)
      have hr2 := e4 _ _ hrH
      have npr : r ≠ p := ne_of_none hrH hp
      have nqr : r ≠ q := ne_of_none hrH fq
      have evr : Ev (tDGet (tVar 0) (tVar 4)) [some (.ref d), some (vI goal), some (.ref p), some (.ref q), some (vI here), y5] H4 (.ref r) := fun H5 e5 Q' q' => ⟨_, rfl, _, rfl, d, _, rfl, .inl ⟨_, keyN here, Evl.ex_rd (e4.trans e5) hd0, rfl, vr.symm⟩, q' H5 (Ex.refl _)⟩
      refine Evl.s_forL (K := K) evr (Evl.sq_of hr2) (fun i σ' H' => ∃ kvs' wt2 y5, σ' = [some (.ref d), some (vI goal), some (.ref p), some (.ref q), some (vI here), y5] ∧ Ex H H' ∧ H' p = some (kvO kvs') ∧ H' q = some (.lst (vIs wt2)) ∧ DIn L goal here i kvs' wt2 ∧ 2 * (vt.length - kvs'.length) + wt2.length < 2 * (vt.length - kvs.length) + (wt' ++ [here]).length)
        (fun H5 e5 => ⟨kvs, wt', y5, rfl, e4.trans e5, e5 _ _ hp4, e5 _ _ hq4, DI, by simp⟩) (fun i σ' H' _ ⟨_, _, _, _, e, _⟩ => Evl.sq_of (e _ _ hrH)) (fun i x σ' H5 hi h => ?_) (fun σ' H5 h => ?_)
      · obtain ⟨kvs', wt2, y5', rfl, e5, hp5, hq5, DI5, hm5⟩ := h
        obtain ⟨near, hnear, rfl⟩ : ∃ near, (adj L here)[i]? = some near ∧ vI near = x := by
          rw [List.getElem?_map] at hi
          cases e : (adj L here)[i]? with
          | none => rw [e] at hi; cases hi
          | some z => rw [e] at hi; exact ⟨z, rfl, Option.some.inj hi⟩
        have nv : near ∈ vt := (g.ends (mem_adj.mp (List.mem_of_getElem? hnear))).2
        show tIfS _ _ _ _ _ _
        -- near != goal and near not in ahead
        have et : EvT (tAnd (tTest (tOp rNe (tVar 5) (tVar 1))) (tB (tDNotIn (tVar 5) (tVar 2)))) [some (.ref d), some (vI goal), some (.ref p), some (.ref q), some (vI here), some (vI near)] H5 (!decide (near = goal) && !(look kvs' near).isSome) := by
          refine Evl.et_and (Evl.et_is (Evl.et_test (Evl.ev_op (Evl.ev_var rfl) (Evl.ev_var rfl) (Evl.rv_ne rfl))) ?_) fun _ => ?_
          · congr 1
            by_cases e : near = goal
            · subst e; simp
            · rw [decide_eq_false e, decide_eq_false (fun z => e (by injection z with z; omega))]
          · intro H6 e6 Q' q'
            refine ⟨_, rfl, _, rfl, p, _, rfl, .inl ⟨_, keyN near, .inl (e6 _ _ hp5), rfl, rfl⟩, _, rfl, ?_⟩
            rw [valV_kv]
            have := q' H6 (Ex.refl _)
            cases e : look kvs' near with
            | none => rw [e] at this; exact this
            | some v => rw [e] at this; exact this
        refine Evl.s_when et (fun hb H6 e6 => ?_) (fun hb H6 e6 => ?_)
        · have n1 : near ≠ goal := fun e => by rw [decide_eq_true e] at hb; cases hb
          have n2 : look kvs' near = none := by
            cases e : look kvs' near with
            | none => rfl
            | some v => rw [e] at hb; simp at hb
          have nk : ¬ Known goal kvs' near := fun z => z.elim n1 (look_none.mp n2)
          have hroom := DI5.room g hg nv nk
          have hp6 := e6 _ _ hp5
          have hq6 := e6 _ _ hq5
          have hz : (kvs'.map fun q => (keyN q.1, vI q.2)).length < sizeLine := by
            rw [List.length_map]
            exact szN (by omega)
          refine ⟨_, rfl, _, rfl, _, rfl, p, _, rfl, DPut.k (k := keyN near) hp6 hz, ?_⟩
          have hv : valV (kvs'.map fun q => (keyN q.1, vI q.2)) (keyN near) = none := by rw [valV_kv, n2]; rfl
          rw [putK_new _ hv]
          have ek : (kvs'.map fun q => (keyN q.1, vI q.2)) ++ [(keyN near, vI here)] = (kvs' ++ [(near, here)]).map fun q => (keyN q.1, vI q.2) := by rw [List.map_append]; rfl
          rw [ek]
          have hq7 : (upd H6 p (kvO (kvs' ++ [(near, here)]))) q = some (.lst (vIs wt2)) := by rw [upd_ne npq.symm]; exact hq6
          have hz2 : (vIs wt2).length < sizeLine := by
            rw [List.length_map]
            exact szN (by omega)
          refine ⟨_, rfl, .inl ⟨rfl, _, .inl (.inl hq7)⟩, _, rfl, q, _, _, rfl, rfl, hq7, hz2, ?_⟩
          refine ⟨kvs' ++ [(near, here)], wt2 ++ [near], _, rfl, Ex.mut (Ex.mut (e5.trans e6) hp) fq, ?_, ?_, DI5.add hnear nk, ?_⟩
          · rw [upd_ne npq, upd_same]
          · rw [upd_same]
            simp [vIs]
          · simp only [List.length_append, List.length_cons, List.length_nil] at hm5 ⊢
            omega
        · have kn : Known goal kvs' near := by
            by_cases e : near = goal
            · exact .inl e
            · refine .inr ?_
              rw [decide_eq_false e] at hb
              cases e2 : look kvs' near with
              | none => rw [e2] at hb; cases hb
              | some v =>
                obtain ⟨j, hj⟩ := look_ix e2
                exact List.mem_map.mpr ⟨_, List.mem_of_getElem? hj, rfl⟩
          exact ⟨kvs', wt2, _, rfl, e5.trans e6, e6 _ _ hp5, e6 _ _ hq5, DI5.skip hnear kn, hm5⟩
      · obtain ⟨kvs', wt2, y5', rfl, e5, hp5, hq5, DI5, hm5⟩ := h
        rw [List.length_map] at DI5
        exact ⟨kvs', wt2, _, _, rfl, e5, hp5, hq5, DI5.done, hm5⟩
    · -- nothing waits
      have : wt = [] := by cases wt with | nil => rfl | cons a b => cases hb
      subst this
      exact ⟨_, rfl, k p H2 kvs (e1.trans e2) hp D.ahead (e2 _ _ hp1)⟩
end
end K15

set_option Elab.async false
set_option linter.all false
set_option maxRecDepth 100000
set_option maxHeartbeats 4000000
namespace K15
open PySem PySem.Spec PyProof.Rows L2 TM Pr Ep
open Evl (Ex Ev EvT EvA EvL)
section
variable {P : Program} {w : World} {K : PySem.W.Frag} {mg : Str → Option Value} {base : Heap} {A : Adr}
/-- the walk through the keys of rows that are locked -/
theorem keys_x {m i : Nat} {rs : List Addr} {x : V} (hi : i < m) (h : ∃ k z, ((keysN m).zip (rs.map V.ref))[i]? = some (k, z) ∧ x = kV k) : x = vI i := by
  obtain ⟨k, z, e1, e2⟩ := h
  have := List.getElem?_zip_eq_some.mp e1
  rw [keysN_at hi] at this
  obtain ⟨e3, _⟩ := this
  cases e3
  exact e2
theorem src_rows {td : TE} {σ : L2.St} {H : Hp} {d : Addr} {od : Obj} {m : Nat} {rs : List Addr} (hrl : rs.length = m) (h : Ev td σ H (.ref d)) (hd : H d = some (.frz od (dkOf m rs))) : Src (iKeys td) σ H m (fun i v => ∃ k z, ((keysN m).zip (rs.map V.ref))[i]? = some (k, z) ∧ v = kV k) := by
  have src := src_keys (σ := σ) (H := H) (td := td) (d := d) (o := od) h hd
  have hkl : ((keysN m).zip (rs.map V.ref)).length = m := by rw [List.length_zip, keysN_length, List.length_map, hrl, Nat.min_self]
  rw [hkl] at src
  exact src
theorem ev_row {td tk : TE} {σ : L2.St} {H : Hp} {d r : Addr} {m i : Nat} {rs : List Addr} (h : Ev td σ H (.ref d)) (hk : Ev tk σ H (vI i)) (hd : Rd H d (dkOf m rs)) (hv : valV ((keysN m).zip (rs.map V.ref)) (keyN i) = some (.ref r)) : Ev (tDGet td tk) σ H (.ref r) := fun H1 e1 Q q =>
  h H1 e1 _ fun H2 e2 => hk H2 (e1.trans e2) _ fun H3 e3 => ⟨d, _, rfl, .inl ⟨_, keyN i, Evl.ex_rd ((e1.trans e2).trans e3) hd, rfl, hv.symm⟩, q H3 (e2.trans e3)⟩
theorem ok_yards_among (T : Txt K mg A) : FnOk P w K mg base CX0 1 A.yards_among A.yards_among_fd ["around"] spYards := by
  refine T.F_yards_among.ok sc_yards_among (fun vs H Q E h => ?_) (fun cdv A' outer s H vs Q E hr h => ?_)
  · obtain ⟨L, d, rfl, _⟩ := h
    rfl
  · obtain ⟨L, d, rfl, ⟨rs, hd, R⟩, hlen, k⟩ := h
    have hu := hu_of hr
    refine ⟨_, (pss_one (ps_ret (pe_lock (pe_lc (own := [("place", 1)]) rfl sc_yards_among.nd (pi_keys (pv 0)) (blkOk_by (N := n_yards_among) (sc := defScope s_yards_among) (by decide +kernel)) (fun _ _ _ _ _ => (pg_name (i := 1) sc_yards_among.nd rfl (Or.inl rfl))) (fun _ _ _ _ _ => (pts_one (pt_cmpR op_gt (show PE _ _ (tCB (rLenA K) _) from (pe_callB (id := "len") call_len (by rfl) T.n_len (by decide +kernel) (pa_cons (pe_dget hu (pv 0) (pv 1) (fun _ _ => rfl)) pa_nil))) pe_int (nomark _)))) (fun _ _ _ _ _ => (pv 1)))))), ?_⟩
    refine p_ret (P := NewL (vIs (yardsL L))) (evp_lock (d := d) (u := dkOf (L.length + 1) rs) hd trivial (P := fun v Ha Hb => ∃ p, v = .ref p ∧ Ha p = none ∧ p ≠ d ∧ Hb p = some (.lst (vIs (yardsL L)))) (fun Ha od ea => ?_) (fun v Ha Hb od ea eb h => ?_)) (fun v H1 e1 h => ?_)
    · have R3 := (R.ex ea).lock (ea _ _ hd) od
      refine (lcV (src_rows R.len (Evl.ev_var (v := .ref d) rfl) upd_same) (by omega) (fun i x => [some (.ref d), some x]) (fun _ _ => rfl) (fun _ _ _ _ _ _ _ q => q) (fun i => decide (1 < (adj L i).length)) (fun i => vI i) (fun i x H1 e1 hi hx => ?_) (fun i x H1 e1 hi hx _ => ?_)).imp (fun v H1 H2 e1 e2 h => ?_)
      · cases keys_x hi hx
        obtain ⟨r, hr1, hr2, vr⟩ := R3.get hi
        refine Evl.et_is (Evl.et_test (Evl.ev_op (ev_lenL (K := K) (ev_row (Evl.ev_var rfl) (Evl.ev_var rfl) (.inr ⟨od, e1 _ _ upd_same⟩) vr) (Evl.sq_of (e1 _ _ hr2))) Evl.ev_c rv_I0P)) ?_
        rw [List.length_map]
        by_cases c : 1 < (adj L i).length
        · rw [decide_eq_true c, decide_eq_true (by omega)]
        · rw [decide_eq_false c, decide_eq_false (by omega)]
      · cases keys_x hi hx
        exact Evl.ev_var rfl
      · obtain ⟨p, rfl, hp, k⟩ := h
        refine ⟨p, rfl, hp, fun z => ?_, k⟩
        rw [z, e1 _ _ upd_same] at hp
        cases hp
    · obtain ⟨p, rfl, hp, npd, k⟩ := h
      rw [upd_ne npd] at hp
      exact ⟨p, rfl, hp, by rw [upd_ne npd]; exact k⟩
    · obtain ⟨p, rfl, hp, k2⟩ := h
      exact k p H1 e1 hp k2
theorem ok_are_lanes (T : Txt K mg A) : FnOk P w K mg base CX0 3 A.are_lanes A.are_lanes_fd ["value"] spLanes := by
  refine T.F_are_lanes.ok sc_are_lanes (fun vs H Q E h => ?_) (fun cdv A' outer s H vs Q E hr h => ?_)
  · obtain ⟨L, a, vt, rfl, _⟩ := h
    rfl
  · obtain ⟨L, a, vt, rfl, hL, g, k⟩ := h
    have hu := hu_of hr
    refine ⟨_, (pss_cons (ps_if (PW.pt (pw_or (pt_not (pt_val (pe_call (ok_is_row T) (hr.mono (by decide)) (by rfl) T.m_is_row T.F_is_row.kp T.b_is_row .nil pass0 (pa_cons (pv 0) pa_nil)))) (pw_or1 (pt_not (pt_val (show PE _ _ (tCB (rAll K) _) from (pe_callB (id := "all") (cr_all rfl) (by rfl) T.n_all (by decide +kernel) (pa_cons (pe_lc (own := [("pair", 2)]) rfl sc_are_lanes.nd (show PI _ _ _ (iList K _) from pi_list (pv 0)) (blkOk_by (N := n_are_lanes) (sc := defScope s_are_lanes) (by decide +kernel)) (fun _ _ _ _ _ => (pg_name (i := 2) sc_are_lanes.nd rfl (Or.inl rfl))) (fun _ _ _ _ _ => pts_nil) (fun _ _ _ _ _ => (pe_call (ok_is_pair_up_to T) (hr.mono (by decide)) (by rfl) T.m_is_pair_up_to T.F_is_pair_up_to.kp T.b_is_pair_up_to .nil pass0 (pa_cons (pv 2) (pa_cons (show PE _ _ (tCB (rLenA K) _) from (pe_callB (id := "len") call_len (by rfl) T.n_len (by decide +kernel) (pa_cons (pv 0) pa_nil))) pa_nil))))) pa_nil)))))))) (pss_one (ps_ret pe_bl)) pss_nil) (pss_cons (ps_set (i := 1) sc_are_lanes.nd rfl (Or.inr rfl) (pe_call (ok_neighbours_by_place T) (hr.mono (by decide)) (by rfl) T.m_neighbours_by_place T.F_neighbours_by_place.kp T.b_neighbours_by_place .nil pass0 (pa_cons (pv 0) pa_nil))) (pss_cons (ps_if (pt_cmpR op_lt (show PE _ _ (tCB rLenD _) from pe_callB (id := "len") call_lenD (by rfl) T.n_len (by decide +kernel) (pa_cons (pe_call (ok_places_ahead T) (hr.mono (by decide)) (by rfl) T.m_places_ahead T.F_places_ahead.kp T.b_places_ahead .nil pass0 (pa_cons (pv 1) (pa_cons pe_int pa_nil))) pa_nil)) (show PE _ _ (tCB (rLenA K) _) from (pe_callB (id := "len") call_len (by rfl) T.n_len (by decide +kernel) (pa_cons (pv 0) pa_nil))) (nomark _)) (pss_one (ps_ret pe_bl)) pss_nil) (pss_cons (ps_if (pt_cmpR op_gt (show PE _ _ (tCB (rMax K) _) from (pe_callB (id := "max") (cr_max rfl) (by rfl) T.n_max (by decide +kernel) (pa_cons (pe_lock (pe_lc (own := [("place", 3)]) rfl sc_are_lanes.nd (pi_keys (pv 1)) (blkOk_by (N := n_are_lanes) (sc := defScope s_are_lanes) (by decide +kernel)) (fun _ _ _ _ _ => (pg_name (i := 3) sc_are_lanes.nd rfl (Or.inl rfl))) (fun _ _ _ _ _ => pts_nil) (fun _ _ _ _ _ => (show PE _ _ (tCB (rLenA K) _) from (pe_callB (id := "len") call_len (by rfl) T.n_len (by decide +kernel) (pa_cons (pe_dget hu (pv 1) (pv 3) (fun _ _ => rfl)) pa_nil)))))) pa_nil))) (pe_globI rfl T.g_MOST_LANES_AT_A_PLACE) (nomark _)) (pss_one (ps_ret pe_bl)) pss_nil) (pss_one (ps_ret (pe_chain op_le op_le pe_int (show PE _ _ (tCB (rLenA K) _) from (pe_callB (id := "len") call_len (by rfl) T.n_len (by decide +kernel) (pa_cons (pe_call (ok_yards_among T) (hr.mono (by decide)) (by rfl) T.m_yards_among T.F_yards_among.kp T.b_yards_among .nil pass0 (pa_cons (pv 1) pa_nil)) pa_nil))) (pe_globI rfl T.g_MOST_YARDS)))))))), ?_⟩
    obtain ⟨ls, ha, hp⟩ := id hL
    have hll : ls.length = L.length := PySem.Paired.length hp
    have hsm := g.small
    have hlen : ∀ {σ : L2.St} {H1 : Hp} (i : Nat), σ[i]? = some (some (.ref a)) → Ex H H1 → Ev (tCB (rLenA K) (tCons (tVar i) tNil)) σ H1 (vI L.length) := fun {σ H1} i hv e => by
      have := ev_lenL (K := K) (σ := σ) (H := H1) (Evl.ev_var hv) (Evl.sq_of (e _ _ ha))
      rw [hll] at this
      exact this
    -- all pairs
    refine p_skip (Evl.et_is (Evl.et_or (a := false) (b := false) (Evl.et_is (Evl.et_not (a := true) (evt_P (evp_callA (vs := [.ref a]) (Evl.ea_cons (Evl.ev_var rfl) Evl.ea_nil) (fun H2 e2 Q q => ⟨a, ls, rfl, .inl (e2 _ _ ha), fun H3 e3 => q _ H3 e3 rfl⟩) (fun _ _ _ _ _ _ _ h => h)))) rfl) (fun _ => Evl.et_is (Evl.et_not (a := true) (evt_P (evp_cb1 (lcV (src_list (K := K) (a := a) (xs := ls) (Evl.ev_var rfl) (Evl.sq_of ha)) (by omega) (fun i x => [some (.ref a), none, some x, none]) (fun _ _ => rfl) (fun _ _ _ _ _ _ _ q => q) (fun _ => true) (fun _ => .bl true) (fun _ _ _ _ _ _ => fun H1 e Q q => q H1 (Ex.refl _)) (fun i x H1 e1 hi hx _ => ?_)) (fun v H1 H2 e1 e2 h Q q => ?_)))) rfl)) rfl) fun H1 e1 => ?_
    · obtain ⟨p, hpi, t, rfl, ht⟩ := paired_ix hp hx
      obtain ⟨b1, b2⟩ := g.bound p (List.mem_of_getElem? hpi)
      refine ev_evp (evp_callA (vs := [.ref t, vI L.length]) (Evl.ea_cons (Evl.ev_var rfl) (Evl.ea_cons (hlen 0 rfl e1) Evl.ea_nil)) (fun H2 e2 Q q => ⟨t, p, L.length, rfl, (e1.trans e2) _ _ ht, fun H3 e3 => q _ H3 e3 ?_⟩) (fun _ _ _ _ _ _ _ h => h))
      show V.bl _ = V.bl true
      rw [decide_eq_true b1, decide_eq_true b2]
      rfl
    · obtain ⟨D, rfl, hD0, hD⟩ := h
      refine ⟨D, ((List.range ls.length).filter fun _ => true).map fun _ => true, rfl, Evl.sq_of (by rw [hD, List.map_map]; rfl), q _ _ (Ex.refl _) ?_⟩
      show V.bl _ = V.bl true
      congr 1
      rw [List.all_eq_true]
      intro x hx
      obtain ⟨_, _, e⟩ := List.mem_map.mp hx
      rw [← e]
      rfl
    -- around = ..
    refine p_asg (evp_callA (vs := [.ref a]) (P := fun v Ha Hb => ∃ p, v = .ref p ∧ Ha p = none ∧ AroundAt Hb p (L.length + 1) (adj L)) (Evl.ea_cons (Evl.ev_var rfl) Evl.ea_nil) (fun H2 e2 Q q => ⟨a, L, rfl, hL.ex (e1.trans e2), g.bound, hsm, fun p H3 e3 hp hA => q _ H3 e3 ⟨p, rfl, hp, hA⟩⟩) (fun v H1 H2 H3 _ e2 _ h => by
      obtain ⟨p, r, hp, hA⟩ := h
      exact ⟨p, r, Evl.fresh_back e2 hp, hA⟩)) fun v H2 e2 h => ?_
    obtain ⟨d, rfl, hd0, hA⟩ := h
    -- as many places ahead as lanes
    have e12 := e1.trans e2
    refine p_skip (Evl.et_is (Evl.et_test (Evl.ev_op (x := vI L.length) (y := vI L.length) (ev_evp (evp_cb1 (evp_callA (vs := [.ref d, vI 0]) (P := fun v _ Hb => ∃ p kvs, v = .ref p ∧ Ahead L 0 kvs ∧ Hb p = some (kvO kvs)) (Evl.ea_cons (Evl.ev_var rfl) (Evl.ea_cons Evl.ev_c Evl.ea_nil)) (fun H3 e3 Q q => ⟨L, d, 0, vt, rfl, g.tr, (hA.ex e3).r, g.zero, fun v hv => (g.vs_ v).mp hv, hsm, fun p H4 kvs e4 _ hk hp => q _ H4 e4 ⟨p, kvs, rfl, hk, hp⟩⟩) (fun _ _ _ _ _ _ _ h => h)) (fun v H1 H2 _ _ h Q q => ?_))) (hlen 0 rfl e12) rv_I0P)) ?_) fun H3 e3 => ?_
    · obtain ⟨p, kvs, rfl, hk, hp⟩ := h
      refine ⟨p, _, rfl, hp, q _ _ (Ex.refl _) ?_⟩
      rw [List.length_map, hk.count g.tr g.zero]
      rfl
    · exact decide_eq_false (by omega)
    -- at most four lanes at each
    have hA3 := hA.ex e3
    obtain ⟨rs, hd, R⟩ := id hA3
    refine p_skip (evt_leC (evp_cb1 (evp_lock (d := d) (u := dkOf (L.length + 1) rs) hd trivial (P := fun v Ha Hb => ∃ p, v = .ref p ∧ p ≠ d ∧ Hb p = some (.lst (((List.range (L.length + 1)).filter fun _ => true).map fun i => .int ((adj L i).length : Int))))
      (P' := fun v _ Hb => ∃ p, v = .ref p ∧ Hb p = some (.lst (((List.range (L.length + 1)).filter fun _ => true).map fun i => .int ((adj L i).length : Int)))) (fun Ha od ea => ?_) (fun v Ha Hb od ea eb h => ?_)) (fun v H1 H2 _ _ h Q q => ?_))) fun H4 e4 => ?_
    · have R3 := (R.ex ea).lock (ea _ _ hd) od
      refine (lcV (src_rows R.len (Evl.ev_var (v := .ref d) rfl) upd_same) (by omega) (fun i x => [some (.ref a), some (.ref d), none, some x]) (fun _ _ => rfl) (fun _ _ _ _ _ _ _ q => q) (fun _ => true) (fun i => .int ((adj L i).length : Int)) (fun _ _ _ _ _ _ => fun H1 e Q q => q H1 (Ex.refl _)) (fun i x H1 e1 hi hx _ => ?_)).imp (fun v H1 H2 e1 e2 h => ?_)
      · cases keys_x hi hx
        obtain ⟨r, hr1, hr2, vr⟩ := R3.get hi
        have := ev_lenL (K := K) (ev_row (td := tVar 1) (tk := tVar 3) (σ := [some (.ref a), some (.ref d), none, some (vI i)]) (H := H1) (Evl.ev_var rfl) (Evl.ev_var rfl) (.inr ⟨od, e1 _ _ upd_same⟩) vr) (Evl.sq_of (e1 _ _ hr2))
        rw [List.length_map] at this
        exact this
      · obtain ⟨p, rfl, hp, k⟩ := h
        refine ⟨p, rfl, fun z => ?_, k⟩
        rw [z, e1 _ _ upd_same] at hp
        cases hp
    · obtain ⟨p, rfl, npd, k⟩ := h
      exact ⟨p, rfl, by rw [upd_ne npd]; exact k⟩
    · obtain ⟨p, rfl, hp⟩ := h
      refine ⟨p, ((List.range (L.length + 1)).filter fun _ => true).map fun i => ((adj L i).length : Int), rfl, Evl.sq_of (by rw [hp, List.map_map]; rfl), ?_, fun m hm _ => q _ _ (Ex.refl _) ⟨m, rfl, ?_⟩⟩
      · have : ((List.range (L.length + 1)).filter fun _ => true) = List.range (L.length + 1) := List.filter_eq_self.mpr fun _ _ => rfl
        rw [List.length_map, this, List.length_range]
        omega
      · obtain ⟨i, _, e⟩ := List.mem_map.mp hm
        have := g.deg i
        omega
    -- 1 <= len(yards_among(around)) <= 7
    have hA4 := hA3.ex e4
    have hy : Ev (tCB (rLenA K) (tCons (tCall spYards [] E0 (tCons (tVar 1) tNil)) tNil)) [some (.ref a), some (.ref d), none, none] H4 (vI (yardsL L).length) := by
      have := ev_lenP (K := K) (xs := vIs (yardsL L)) (evp_callA (σ := [some (.ref a), some (.ref d), none, none]) (H := H4) (sp := spYards) (E := E0) (dvs := []) (vs := [.ref d]) (ta := tCons (tVar 1) tNil) (P := fun v _ Hb => ∃ p, v = .ref p ∧ Hb p = some (.lst (vIs (yardsL L)))) (Evl.ea_cons (Evl.ev_var rfl) Evl.ea_nil) (fun H2 e2 Q q => ⟨L, d, rfl, hA4.ex e2, hsm, fun p H3 e3 _ hp => q _ H3 e3 ⟨p, rfl, hp⟩⟩) (fun _ _ _ _ _ _ _ h => h))
      rw [List.length_map] at this
      exact this
    refine hy H4 (Ex.refl _) _ fun H5 e5 => ?_
    have h1 := g.least
    have h2 := g.most
    refine ⟨1, _, rfl, rfl, true, ?_, iteT ?_⟩
    · show V.bl (decide _) = _
      rw [decide_eq_true (by omega)]
    · refine ⟨_, 7, rfl, rfl, ?_⟩
      have z := k H5 ((e12.trans e3).trans (e4.trans e5))
      show Q (V.bl (decide _)) H5
      rw [decide_eq_true (by omega)]
      exact z
end
end K15

set_option Elab.async false
set_option linter.all false
set_option maxRecDepth 100000
set_option maxHeartbeats 4000000
namespace Pr
open PySem PySem.Spec PyProof.Rows L2 TM
open Evl (Ex)
def pairOf (H : Hp) : V → Int × Int
  | .ref t => match H t with
    | some (.tup [.int a, .int b]) => (a, b)
    | _ => (0, 0)
  | _ => (0, 0)
theorem pairOf_at {H : Hp} {v : V} {q : Nat × Nat} (h : PairAt H v q) : pairOf H v = ((q.1 : Int), (q.2 : Int)) := by
  obtain ⟨t, rfl, e⟩ := h
  unfold pairOf
  simp only [e]
theorem paired_map {α β : Type} {R : α → β → Prop} {f : α → β} : ∀ {xs : List α}, (∀ x ∈ xs, R x (f x)) → Paired R xs (xs.map f)
  | [], _ => .nil
  | x :: xs, h => .cons (h x List.mem_cons_self) (paired_map fun y hy => h y (List.mem_cons_of_mem _ hy))
theorem map_paired {α β : Type} {R : α → β → Prop} {f : α → β} (k : ∀ x y, R x y → f x = y) : ∀ {xs : List α} {ys : List β}, Paired R xs ys → xs.map f = ys
  | _, _, .nil => rfl
  | _, _, .cons h t => by rw [List.map_cons, k _ _ h, map_paired k t]
theorem paired_mem {α β : Type} {R : α → β → Prop} : ∀ {xs : List α} {ys : List β} {x : α}, Paired R xs ys → x ∈ xs → ∃ y, R x y
  | _, _, x, .nil, h => nomatch h
  | _, _, x, .cons (a := a) r t, h => by
    rcases List.mem_cons.mp h with e | h
    · exact ⟨_, e ▸ r⟩
    · exact paired_mem t h
end Pr
namespace K15
open PySem PySem.Spec PyProof.Rows L2 TM Pr Ep
open Evl (Ex Ev EvT EvA EvL)
section
variable {P : Program} {w : World} {K : PySem.W.Frag} {mg : Str → Option Value} {base : Heap} {A : Adr}
theorem ok_Country_init (T : Txt K mg A) : FnOk P w K mg base CX0 4 A.Country_init A.Country_init_fd ["self", "lanes"] (spInit A.Country) := by
  refine T.F_Country_init.ok sc_Country_init (fun vs H Q E h => ?_) (fun cdv A' outer s H vs Q E hr h => ?_)
  · obtain ⟨L, p, dx, a, vt, rfl, _⟩ := h
    rfl
  · obtain ⟨L, p, dx, a, vt, rfl, ho, hL, g, k⟩ := h
    have hu := hu_of hr
    refine ⟨_, (pss_cons (ps_if (pt_not (pt_val (pe_call (ok_are_lanes T) (hr.mono (by decide)) (by rfl) T.m_are_lanes T.F_are_lanes.kp T.b_are_lanes .nil pass0 (pa_cons (pv 1) pa_nil)))) (pss_one ps_never) pss_nil) (pss_cons (ps_fld (pv 0) (show PE _ _ (tCB (rSortedPO K) _) from (pe_callB (id := "sorted") cr_sortedPO (by rfl) T.n_sorted (by decide +kernel) (pa_cons (pe_lc (own := [("pair", 2)]) rfl sc_Country_init.nd (show PI _ _ _ (iList K _) from pi_list (pv 1)) (blkOk_by (N := n_Country_init) (sc := defScope s_Country_init) (by decide +kernel)) (fun _ _ _ _ _ => (pg_name (i := 2) sc_Country_init.nd rfl (Or.inl rfl))) (fun _ _ _ _ _ => pts_nil) (fun _ _ _ _ _ => (pe_tup (pa_cons (pe_callB (id := "min") (call_min2 rfl) (by rfl) T.n_min (by decide +kernel) (pa_cons (show PE _ _ (tOp (rIxT K) _ _) from pe_ix ix_tup (pv 2) pe_int (fun _ _ => rfl)) (pa_cons (show PE _ _ (tOp (rIxT K) _ _) from pe_ix ix_tup (pv 2) pe_int (fun _ _ => rfl)) pa_nil))) (pa_cons (pe_callB (id := "max") (call_max2 rfl) (by rfl) T.n_max (by decide +kernel) (pa_cons (show PE _ _ (tOp (rIxT K) _ _) from pe_ix ix_tup (pv 2) pe_int (fun _ _ => rfl)) (pa_cons (show PE _ _ (tOp (rIxT K) _ _) from pe_ix ix_tup (pv 2) pe_int (fun _ _ => rfl)) pa_nil))) pa_nil))))) pa_nil))) rfl) (pss_cons (ps_fld (pv 0) (pe_call (ok_neighbours_by_place T) (hr.mono (by decide)) (by rfl) T.m_neighbours_by_place T.F_neighbours_by_place.kp T.b_neighbours_by_place .nil pass0 (pa_cons (show PE _ _ (tFld K _ _) from pe_fld (pv 0) rfl) pa_nil)) rfl) (pss_cons (ps_fld (pv 0) (pe_lock (pe_dc (own := [("goal", 3)]) rfl sc_Country_init.nd (pi_keys (show PE _ _ (tFld K _ _) from pe_fld (pv 0) rfl)) (blkOk_by (N := n_Country_init) (sc := defScope s_Country_init) (by decide +kernel)) (fun _ _ _ _ _ => (pg_name (i := 3) sc_Country_init.nd rfl (Or.inl rfl))) (fun _ _ _ _ _ => pts_nil) (fun _ _ _ _ _ => (pv 3)) (fun _ _ _ _ _ => (pe_call (ok_places_ahead T) (hr.mono (by decide)) (by rfl) T.m_places_ahead T.F_places_ahead.kp T.b_places_ahead .nil pass0 (pa_cons (show PE _ _ (tFld K _ _) from pe_fld (pv 0) rfl) (pa_cons (pv 3) pa_nil)))))) rfl) (pss_cons (ps_fld (pv 0) (pe_call (ok_yards_among T) (hr.mono (by decide)) (by rfl) T.m_yards_among T.F_yards_among.kp T.b_yards_among .nil pass0 (pa_cons (show PE _ _ (tFld K _ _) from pe_fld (pv 0) rfl) pa_nil)) rfl) (pss_one (ps_fld (pv 0) (pe_lock (pe_lc (own := [("place", 4)]) rfl sc_Country_init.nd (pi_keys (show PE _ _ (tFld K _ _) from pe_fld (pv 0) rfl)) (blkOk_by (N := n_Country_init) (sc := defScope s_Country_init) (by decide +kernel)) (fun _ _ _ _ _ => (pg_name (i := 4) sc_Country_init.nd rfl (Or.inl rfl))) (fun _ _ _ _ _ => (pts_one (pt_cmpR op_eq (show PE _ _ (tCB (rLenA K) _) from (pe_callB (id := "len") call_len (by rfl) T.n_len (by decide +kernel) (pa_cons (pe_dget hu (show PE _ _ (tFld K _ _) from pe_fld (pv 0) rfl) (pv 4) (fun _ _ => rfl)) pa_nil))) pe_int (nomark _)))) (fun _ _ _ _ _ => (pv 4)))) rfl))))))), ?_⟩
    have hsm := g.small
    have hn : ∀ {b : Addr} {o : HO}, H b = some o → (∀ C dx fs, o ≠ .ins C dx fs) → but H p b = some o := fun {b o} h n => but_ne h (ne_of h ho (n _ _ _))
    have hL0 : LanesAt (but H p) a L := by
      obtain ⟨ls, ha, hp⟩ := hL
      refine ⟨ls, hn ha (fun _ _ _ z => nomatch z), paired_imp (fun v q ⟨t, r, e⟩ => ⟨t, r, hn e (fun _ _ _ z => nomatch z)⟩) hp⟩
    have fp : but H p p = none := but_at
    have hx0 : ∀ b o, H b = some o → b ≠ p → but H p b = some o := fun b o h n => but_ne h n
    have x0 : Ex (but H p) H := but_ex
    generalize but H p = H0 at hL0 fp x0 hn hx0
    obtain ⟨ls, ha0, hp0⟩ := id hL0
    have hll : ls.length = L.length := PySem.Paired.length hp0
    -- if not are_lanes(lanes)
    refine p_skip (Evl.et_is (Evl.et_not (a := true) (evt_P (evp_callA (vs := [.ref a]) (Evl.ea_cons (Evl.ev_var rfl) Evl.ea_nil) (fun H2 e2 Q q => ⟨L, a, vt, rfl, hL.ex e2, g, fun H3 e3 => q _ H3 e3 rfl⟩) (fun _ _ _ _ _ _ _ h => h)))) rfl) fun H1 e1 => ?_
    have x1 := x0.trans e1
    have ho1 := e1 _ _ ho
    -- self._lanes
    refine p_fld (i := 0) (p := p) (P := fun v _ Hb => ∃ l M, v = .ref l ∧ LanesAt Hb l M ∧ M.Perm (norm L) ∧ LexS M) (evp_cb1 (P := fun v Ha Hb => ∃ D ys, v = .ref D ∧ Hb D = some (.lst ys) ∧ Paired (PairAt Hb) ys (norm L)) ?_ (fun v Ha Hb _ _ h Q q => ?_)) rfl ho1 T.cl_Country T.na_Country_lanes (by decide) fun v H2 e2 h => ?_
    · refine (lcI (src_list (K := K) (a := a) (xs := ls) (Evl.ev_var rfl) (Evl.sq_of (x1 _ _ ha0))) (by omega) (fun i x => [some (.ref p), some (.ref a), some x, none, none]) (fun _ _ => rfl)
        (fun D i ys H' => Paired (fun v q => ∃ t, t ≠ D ∧ v = .ref t ∧ H' t = some (.tup [vI q.1, vI q.2])) ys (norm (L.take i))) (fun _ _ _ _ _ _ _ q => q) (fun _ => true) (fun _ _ _ _ _ _ => fun H1 e Q q => q H1 (Ex.refl _))
        (fun i v Ha Hb => ∃ q t, L[i]? = some q ∧ v = .ref t ∧ Ha t = none ∧ Hb t = some (.tup [vI (norm1 q).1, vI (norm1 q).2])) (fun i x Ha ea hi hx _ => ?_) (fun D Ha _ _ => .nil) (fun D i ys Ha Hb e h => ?_) (fun D i ys Ha xs _ h => ?_) (fun D i ys v Ha Hb _ eab hD hi _ h hq xs => ?_) (fun _ _ _ _ _ _ h => nomatch h)).imp (fun v Ha Hb _ _ h => ?_)
      · obtain ⟨q, hq, t, rfl, ht⟩ := paired_ix hp0 hx
        have ht1 := ea _ _ (x1 _ _ ht)
        have i0 : ∀ {σ : L2.St} {H5 : Hp}, σ[2]? = some (some (.ref t)) → Ex Ha H5 → Ev (tOp (rIxT K) (tVar 2) (tC (.int 0))) σ H5 (vI q.1) := fun hs e => Evl.ev_op (Evl.ev_var hs) Evl.ev_c (Evl.rv_ixT (Evl.st_of (e _ _ ht1)) (at_of (j := 0) rfl rfl))
        have i1 : ∀ {σ : L2.St} {H5 : Hp}, σ[2]? = some (some (.ref t)) → Ex Ha H5 → Ev (tOp (rIxT K) (tVar 2) (tC (.int 1))) σ H5 (vI q.2) := fun hs e => Evl.ev_op (Evl.ev_var hs) Evl.ev_c (Evl.rv_ixT (Evl.st_of (e _ _ ht1)) (at_of (j := 1) rfl rfl))
        refine (evp_tup (vs := [vI (norm1 q).1, vI (norm1 q).2]) (Evl.ea_cons (ev_cb2 (i0 rfl (Ex.refl _)) (i1 rfl (Ex.refl _)) fun H7 e7 Q z => ⟨_, _, rfl, ?_⟩) (Evl.ea_cons (ev_cb2 (i0 rfl (Ex.refl _)) (i1 rfl (Ex.refl _)) fun H7 e7 Q z => ⟨_, _, rfl, ?_⟩) Evl.ea_nil)) (by show 2 ≤ 100000; decide)).imp fun v Hc Hd _ _ h => ?_
        · obtain ⟨t2, r, h1, h2⟩ := h
          exact ⟨q, t2, hq, r, h1, h2⟩
        · have e : (if (q.2 : Int) < (q.1 : Int) then (q.2 : Int) else (q.1 : Int)) = ((norm1 q).1 : Int) := by
            unfold norm1
            split <;> simp only [Nat.min_def] <;> split <;> omega
          rw [e]
          exact z
        · have e : (if (q.2 : Int) > (q.1 : Int) then (q.2 : Int) else (q.1 : Int)) = ((norm1 q).2 : Int) := by
            unfold norm1
            split <;> simp only [Nat.max_def] <;> split <;> omega
          rw [e]
          exact z
      · exact paired_imp (fun v q ⟨t, n, r, h⟩ => ⟨t, n, r, e _ _ h⟩) h
      · exact paired_imp (fun v q ⟨t, n, r, h⟩ => ⟨t, n, r, by rw [upd_ne n]; exact h⟩) h
      · obtain ⟨q, t, hq1, rfl, ht1, ht2⟩ := hq
        have nt : t ≠ D := fun z => by rw [z, hD] at ht1; cases ht1
        have e : norm (L.take (i + 1)) = norm (L.take i) ++ [norm1 q] := by
          rw [take_more hq1]
          unfold norm
          rw [List.map_append]
          rfl
        rw [e]
        exact Paired.snoc (paired_imp (fun v q ⟨t', n, r, h⟩ => ⟨t', n, r, by rw [upd_ne n]; exact eab _ _ h⟩) h) ⟨t, nt, rfl, by rw [upd_ne nt]; exact ht2⟩
      · obtain ⟨D, ys, rfl, _, hD, _, h⟩ := h
        rw [hll, List.take_length] at h
        exact ⟨D, ys, rfl, hD, paired_imp (fun v q ⟨t, _, r, h⟩ => ⟨t, r, h⟩) h⟩
    · obtain ⟨D, ys, rfl, hD, hp⟩ := h
      refine ⟨D, ys, pairOf Hb, rfl, Evl.sq_of hD, fun x hx => ?_, fun zs l sd st hl => ?_⟩
      · obtain ⟨q, hq⟩ := paired_mem hp hx
        have e := pairOf_at hq
        obtain ⟨t, r, h⟩ := hq
        exact ⟨t, r, by rw [e]; exact h⟩
      · let f : V → Nat × Nat := fun v => ((pairOf Hb v).1.toNat, (pairOf Hb v).2.toNat)
        have f_at : ∀ v q, PairAt Hb v q → f v = q := fun v q h => by
          show ((pairOf Hb v).1.toNat, (pairOf Hb v).2.toNat) = q
          rw [pairOf_at h]
          simp
        have em : ys.map f = norm L := map_paired f_at hp
        refine q _ _ (Ex.new hl) ⟨l, zs.map f, rfl, ⟨zs, upd_same, paired_map fun x hx => ?_⟩, ?_⟩
        · obtain ⟨q', hq'⟩ := paired_mem hp (st.perm.mem_iff.mp hx)
          rw [f_at x q' hq']
          exact hq'.ex (Ex.new hl)
        · refine ⟨by rw [← em]; exact st.perm.map f, ?_⟩
          have h2 : ∀ x ∈ zs, ∃ q, PairAt Hb x q := fun x hx => (paired_mem hp (st.perm.mem_iff.mp hx))
          have h3 := List.Pairwise.and_mem.mp sd
          refine List.pairwise_map.mpr (h3.imp fun {x y} ⟨hx, hy, z⟩ => ?_)
          obtain ⟨p1, k1⟩ := h2 x hx
          obtain ⟨p2, k2⟩ := h2 y hy
          rw [f_at x p1 k1, f_at y p2 k2]
          have z' := SrtO.lexB_no.mp z
          rw [pairOf_at k1, pairOf_at k2] at z'
          unfold lexLe
          simp only at z'
          omega
    obtain ⟨l, M, rfl, hM, pM, sM⟩ := h
    have x2 := x1.trans e2
    have ho2 := e2 _ _ ho1
    rw [pf1]
    have nM : ∀ i, (nb M i).Perm (nb L i) := fun i => (nb_perm pM i).trans (nb_norm L i)
    have lM : M.length = L.length := by rw [pM.length_eq]; unfold norm; rw [List.length_map]
    have gM := g.same nM lM
    have y2 : Ki H2 (upd H2 p (.ins A.Country dx (g1 (.ref l)))) := .put ho2
    have x3 : Ex H0 (upd H2 p (.ins A.Country dx (g1 (.ref l)))) := Ex.mut x2 fp
    have ho3 : (upd H2 p (.ins A.Country dx (g1 (.ref l)))) p = some (.ins A.Country dx (g1 (.ref l))) := upd_same
    generalize upd H2 p (.ins A.Country dx (g1 (.ref l))) = H3 at y2 x3 ho3
    have hM3 := hM.ki y2
    -- self._around
    refine p_fld (i := 0) (p := p) (P := fun v Ha Hb => ∃ d, v = .ref d ∧ AroundAt Hb d (L.length + 1) (adj L)) (evp_callA (vs := [.ref l]) (Evl.ea_cons (ev_fld (v := .ref l) rfl ho3 T.cl_Country T.na_Country_lanes (by rfl)) Evl.ea_nil) (fun H4 e4 Q q => ⟨l, M, rfl, hM3.ex e4, gM.bound, gM.small, fun d H5 e5 _ hA => q _ H5 e5 ⟨d, rfl, by rw [lM, adj_of nM] at hA; exact hA⟩⟩) (fun _ _ _ _ _ _ _ h => h)) rfl ho3 T.cl_Country T.na_Country_around (by show 1 < 1000; decide) fun v H4 e4 h => ?_
    obtain ⟨d, rfl, rs, hd, R⟩ := h
    have ho4 := e4 _ _ ho3
    rw [pf2]
    have y4 : Ki H4 (upd H4 p (.ins A.Country dx (g2 (.ref l) (.ref d)))) := .put ho4
    have x5 : Ex H0 (upd H4 p (.ins A.Country dx (g2 (.ref l) (.ref d)))) := Ex.mut (x3.trans e4) fp
    have ho5 : (upd H4 p (.ins A.Country dx (g2 (.ref l) (.ref d)))) p = some (.ins A.Country dx (g2 (.ref l) (.ref d))) := upd_same
    generalize upd H4 p (.ins A.Country dx (g2 (.ref l) (.ref d))) = H5 at y4 x5 ho5
    have hM5 := (hM3.ex e4).ki y4
    have hd5 := y4 _ _ hd dkOf_ni
    have R5 := R.ki y4
    have npd : p ≠ d := ne_of ho5 hd5 (fun z => nomatch z)
    -- self._ahead
    refine p_fld (i := 0) (p := p) (P := fun v Ha Hb => ∃ e qs, v = .ref e ∧ Hb e = some (dkOf (L.length + 1) qs) ∧ qs.length = L.length + 1 ∧ ∀ (i : Nat) (q : Addr), qs[i]? = some q → ∃ kvs, Ahead L i kvs ∧ Hb q = some (kvO kvs)) (evp_lock (d := d) (u := dkOf (L.length + 1) rs) hd5 trivial (P := fun v Ha Hb => ∃ e qs, v = .ref e ∧ e ≠ d ∧ Hb e = some (dkOf (L.length + 1) qs) ∧ qs.length = L.length + 1 ∧ ∀ (i : Nat) (q : Addr), qs[i]? = some q → q ≠ d ∧ ∃ kvs, Ahead L i kvs ∧ Hb q = some (kvO kvs)) (fun Ha od ea => ?_) (fun v Ha Hb od ea eb h => ?_)) rfl ho5 T.cl_Country T.na_Country_ahead (by show 2 < 1000; decide) fun v H6 e6 h => ?_
    · have R6 := (R5.ex ea).lock (ea _ _ hd5) od
      have hoA : (upd Ha d (.frz od (dkOf (L.length + 1) rs))) p = some (.ins A.Country dx (g2 (.ref l) (.ref d))) := by rw [upd_ne npd]; exact ea _ _ ho5
      refine (dcI (src_rows R5.len (ev_fld (v := .ref d) rfl hoA T.cl_Country T.na_Country_around (by rfl)) upd_same) (by omega) (fun i x => [some (.ref p), some (.ref a), none, some x, none]) (fun _ _ => rfl)
        (fun D i ys H' => D ≠ d ∧ ∃ qs : List Addr, ys = qs.map V.ref ∧ qs.length = i ∧ ∀ (j : Nat) (q : Addr), qs[j]? = some q → q ≠ D ∧ q ≠ d ∧ ∃ kvs, Ahead L j kvs ∧ H' q = some (kvO kvs)) (fun _ _ _ _ _ _ _ q => q) keyN (fun i j h1 h2 e => ?_) (fun i x H1 _ hi hx => ?_) (fun i v Ha Hb => ∃ q kvs, v = .ref q ∧ Ha q = none ∧ Ahead L i kvs ∧ Hb q = some (kvO kvs)) (fun i x H1 e4 hi hx => ?_) (fun D H1 e4 hD => ?_) (fun D i ys Ha Hb e h => ?_) (fun D i ys v Ha' Hb' kvs e4 e5 hD hi h p xs => ?_)).imp ?_
      · injection e with e
        omega
      · cases keys_x hi hx
        exact Evl.ev_var rfl
      · cases keys_x hi hx
        refine evp_callA (vs := [.ref d, vI i]) (Evl.ea_cons (ev_fld (v := .ref d) rfl (e4 _ _ hoA) T.cl_Country T.na_Country_around (by rfl)) (Evl.ea_cons (Evl.ev_var rfl) Evl.ea_nil)) (fun H2 e2 Q q => ⟨L, d, i, vt, rfl, g.tr, ⟨rs, .inr ⟨od, e2 _ _ (e4 _ _ upd_same)⟩, (R6.ex e4).ex e2⟩, (g.vs_ i).mpr hi, fun v hv => (g.vs_ v).mp hv, hsm, fun p H3 kvs e3 hp hk hq => q _ H3 e3 ⟨p, kvs, rfl, hp, hk, hq⟩⟩) (fun v Hx Hy Hz _ eb _ h => ?_)
        obtain ⟨q, kvs, h1, h2, h3, h4⟩ := h
        exact ⟨q, kvs, h1, Evl.fresh_back eb h2, h3, h4⟩
      · refine ⟨fun z => ?_, [], rfl, rfl, (fun j r hr => by simp at hr)⟩
        subst z
        rw [e4 _ _ upd_same] at hD
        cases hD
      · obtain ⟨h0, qs, h1, h2, h3⟩ := h
        refine ⟨h0, qs, h1, h2, fun j r hr => ?_⟩
        obtain ⟨b1, b2, kvs, b3, b4⟩ := h3 j r hr
        exact ⟨b1, b2, kvs, b3, e _ _ b4⟩
      · obtain ⟨h0, qs, h1, h2, h3⟩ := h
        obtain ⟨q, kvs', rfl, hq, hk, hq2⟩ := p
        have qD : q ≠ D := fun z => by rw [z, hD] at hq; cases hq
        have qd : q ≠ d := fun z => by rw [z, e4 _ _ upd_same] at hq; cases hq
        refine ⟨h0, qs ++ [q], by rw [h1, List.map_append]; rfl, by simp [h2], fun j r hr => ?_⟩
        by_cases hj : j < qs.length
        · rw [List.getElem?_append_left hj] at hr
          obtain ⟨b1, b2, kvs, b3, b4⟩ := h3 j r hr
          exact ⟨b1, b2, kvs, b3, by rw [upd_ne b1]; exact e5 _ _ b4⟩
        · rw [List.getElem?_append_right (by omega)] at hr
          have e0 : j - qs.length = 0 := by
            have := (List.getElem?_eq_some_iff.mp hr).1
            simp at this
            omega
          rw [e0] at hr
          have : q = r := Option.some.inj hr
          subst this
          have ej : j = i := by omega
          subst ej
          exact ⟨qD, qd, kvs', hk, by rw [upd_ne qD]; exact hq2⟩
      · rintro v Hx Hy e4 e5 ⟨e, ys, rfl, he0, he1, hl, ned, qs, rfl, hql, h3⟩
        exact ⟨e, qs, rfl, ned, he1, hql, fun j q hq => (h3 j q hq).2⟩
    · obtain ⟨e, qs, rfl, ned, h1, h2, h3⟩ := h
      refine ⟨e, qs, rfl, by rw [upd_ne ned]; exact h1, h2, fun i q hq => ?_⟩
      obtain ⟨b1, kvs, b2, b3⟩ := h3 i q hq
      exact ⟨kvs, b2, by rw [upd_ne b1]; exact b3⟩
    obtain ⟨e, qs, rfl, he, hql, hqs⟩ := h
    have ho6 := e6 _ _ ho5
    rw [pf3]
    have y6 : Ki H6 (upd H6 p (.ins A.Country dx (g3 (.ref l) (.ref d) (.ref e)))) := .put ho6
    have x7 : Ex H0 (upd H6 p (.ins A.Country dx (g3 (.ref l) (.ref d) (.ref e)))) := Ex.mut (x5.trans e6) fp
    have ho7 : (upd H6 p (.ins A.Country dx (g3 (.ref l) (.ref d) (.ref e)))) p = some (.ins A.Country dx (g3 (.ref l) (.ref d) (.ref e))) := upd_same
    generalize upd H6 p (.ins A.Country dx (g3 (.ref l) (.ref d) (.ref e))) = H7 at y6 x7 ho7
    have hM7 := (hM5.ex e6).ki y6
    have hd7 := y6 _ _ (e6 _ _ hd5) dkOf_ni
    have R7 := (R5.ex e6).ki y6
    have he7 := y6 _ _ he dkOf_ni
    have hq7 : ∀ (i : Nat) (q : Addr), qs[i]? = some q → ∃ kvs, Ahead L i kvs ∧ H7 q = some (kvO kvs) := fun i q hq => by
      obtain ⟨kvs, b1, b2⟩ := hqs i q hq
      exact ⟨kvs, b1, y6 _ _ b2 dK_ni⟩
    -- self._yards
    refine p_fld (i := 0) (p := p) (P := fun v Ha Hb => ∃ y, v = .ref y ∧ Hb y = some (.lst (vIs (yardsL L)))) (evp_callA (vs := [.ref d]) (Evl.ea_cons (ev_fld (v := .ref d) rfl ho7 T.cl_Country T.na_Country_around (by rfl)) Evl.ea_nil) (fun H4 e4 Q q => ⟨L, d, rfl, ⟨rs, e4 _ _ hd7, R7.ex e4⟩, hsm, fun y H5 e5 _ hy => q _ H5 e5 ⟨y, rfl, hy⟩⟩) (fun _ _ _ _ _ _ _ h => h)) rfl ho7 T.cl_Country T.na_Country_yards (by show 3 < 1000; decide) fun v H8 e8 h => ?_
    obtain ⟨y, rfl, hy⟩ := h
    have ho8 := e8 _ _ ho7
    rw [pf4]
    have y8 : Ki H8 (upd H8 p (.ins A.Country dx (g4 (.ref l) (.ref d) (.ref e) (.ref y)))) := .put ho8
    have x9 : Ex H0 (upd H8 p (.ins A.Country dx (g4 (.ref l) (.ref d) (.ref e) (.ref y)))) := Ex.mut (x7.trans e8) fp
    have ho9 : (upd H8 p (.ins A.Country dx (g4 (.ref l) (.ref d) (.ref e) (.ref y)))) p = some (.ins A.Country dx (g4 (.ref l) (.ref d) (.ref e) (.ref y))) := upd_same
    generalize upd H8 p (.ins A.Country dx (g4 (.ref l) (.ref d) (.ref e) (.ref y))) = H9 at y8 x9 ho9
    have hM9 := (hM7.ex e8).ki y8
    have hd9 := y8 _ _ (e8 _ _ hd7) dkOf_ni
    have R9 := (R7.ex e8).ki y8
    have he9 := y8 _ _ (e8 _ _ he7) dkOf_ni
    have hy9 := y8 _ _ hy lst_ni
    have hq9 : ∀ (i : Nat) (q : Addr), qs[i]? = some q → ∃ kvs, Ahead L i kvs ∧ H9 q = some (kvO kvs) := fun i q hq => by
      obtain ⟨kvs, b1, b2⟩ := hq7 i q hq
      exact ⟨kvs, b1, y8 _ _ (e8 _ _ b2) dK_ni⟩
    have npd9 : p ≠ d := npd
    -- self._gates
    refine p_fld1 (i := 0) (p := p) (P := fun v Ha Hb => ∃ y, v = .ref y ∧ Hb y = some (.lst (vIs (gatesL L)))) (evp_lock (d := d) (u := dkOf (L.length + 1) rs) hd9 trivial (P := fun v Ha Hb => ∃ p, v = .ref p ∧ p ≠ d ∧ Hb p = some (.lst (vIs (gatesL L)))) (fun Ha od ea => ?_) (fun v Ha Hb od ea eb h => ?_)) rfl ho9 T.cl_Country T.na_Country_gates (by show 4 < 1000; decide) fun v H10 e10 h => ?_
    · have R3 := (R9.ex ea).lock (ea _ _ hd9) od
      have hoA : (upd Ha d (.frz od (dkOf (L.length + 1) rs))) p = some (.ins A.Country dx (g4 (.ref l) (.ref d) (.ref e) (.ref y))) := by rw [upd_ne npd]; exact ea _ _ ho9
      refine (lcV (src_rows R9.len (ev_fld (v := .ref d) rfl hoA T.cl_Country T.na_Country_around (by rfl)) upd_same) (by omega) (fun i x => [some (.ref p), some (.ref a), none, none, some x]) (fun _ _ => rfl) (fun _ _ _ _ _ _ _ q => q) (fun i => decide ((adj L i).length = 1)) (fun i => vI i) (fun i x H1 e1 hi hx => ?_) (fun i x H1 e1 hi hx _ => ?_)).imp (fun v H1 H2 e1 e2 h => ?_)
      · cases keys_x hi hx
        obtain ⟨r, hr1, hr2, vr⟩ := R3.get hi
        refine Evl.et_is (Evl.et_test (Evl.ev_op (ev_lenL (K := K) (ev_row (ev_fld (v := .ref d) rfl (e1 _ _ hoA) T.cl_Country T.na_Country_around (by rfl)) (Evl.ev_var rfl) (.inr ⟨od, e1 _ _ upd_same⟩) vr) (Evl.sq_of (e1 _ _ hr2))) Evl.ev_c (Evl.rv_eq rfl))) ?_
        rw [List.length_map]
        by_cases c : (adj L i).length = 1
        · rw [decide_eq_true c, c]
          rfl
        · rw [decide_eq_false c, decide_eq_false (fun z => c (by injection z with z; omega))]
      · cases keys_x hi hx
        exact Evl.ev_var rfl
      · obtain ⟨p, rfl, hp, k⟩ := h
        refine ⟨p, rfl, fun z => ?_, k⟩
        rw [z, e1 _ _ upd_same] at hp
        cases hp
    · obtain ⟨p, rfl, npd, k⟩ := h
      exact ⟨p, rfl, by rw [upd_ne npd]; exact k⟩
    obtain ⟨z, rfl, hz⟩ := h
    have ho10 := e10 _ _ ho9
    rw [pf5]
    have y10 : Ki H10 (upd H10 p (.ins A.Country dx (g5 (.ref l) (.ref d) (.ref e) (.ref y) (.ref z)))) := .put ho10
    refine k _ (fun b o hb nb => ?_) ⟨dx, l, d, e, y, z, rs, qs, upd_same, ?_⟩
    · rw [upd_ne nb]
      exact (x9.trans e10) b o (hx0 b o hb nb)
    · refine ⟨⟨M, (hM9.ex e10).ki y10, pM, sM⟩, y10 _ _ (e10 _ _ hd9) dkOf_ni, (R9.ex e10).ki y10, y10 _ _ (e10 _ _ he9) dkOf_ni, hql, fun i q hq => ?_, y10 _ _ (e10 _ _ hy9) lst_ni, y10 _ _ hz lst_ni⟩
      obtain ⟨kvs, b1, b2⟩ := hq9 i q hq
      exact ⟨kvs, b1, y10 _ _ (e10 _ _ b2) dK_ni⟩
end
end K15

set_option Elab.async false
set_option linter.all false
set_option maxRecDepth 100000
set_option maxHeartbeats 4000000
namespace K15
open PySem PySem.Spec PyProof.Rows L2 TM Pr Ep
open Evl (Ex Ev EvT EvA EvL)
section
variable {P : Program} {w : World} {K : PySem.W.Frag} {mg : Str → Option Value} {base : Heap} {A : Adr}
theorem ok_Country_lanes (T : Txt K mg A) : FnOk P w K mg base CX0 1 A.Country_lanes A.Country_lanes_fd ["self"] (spGet A.Country rLanesG) := by
  refine T.F_Country_lanes.ok sc_Country_lanes (fun vs H Q E h => ?_) (fun cdv A' outer s H vs Q E hr h => ?_)
  · obtain ⟨L, p, rfl, _⟩ := h
    rfl
  · obtain ⟨L, p, rfl, ⟨dx, l, d, e, y, g, rs, qs, ho, C⟩, k⟩ := h
    refine ⟨_, (pss_one (ps_ret (show PE _ _ (tCB (rListOf K) _) from (pe_callTy (T := "list") call_list_of (by rfl) T.n_list (by decide +kernel) (pa_cons (show PE _ _ (tFld K _ _) from pe_fld (pv 0) rfl) pa_nil))))), ?_⟩
    obtain ⟨M, hM, pM, sM⟩ := C.l_
    obtain ⟨ls, hl, hp⟩ := id hM
    refine ⟨_, rfl, p, _, dx, _, _, rfl, ho, T.cl_Country, T.na_Country_lanes, fl_l, l, ls, rfl, .inl (Evl.sq_of hl), fun q hq => ?_⟩
    have e := Ex.new (o := .lst ls) hq
    exact k q _ e hq ⟨M, ⟨ls, upd_same, paired_imp (fun _ _ z => z.ex e) hp⟩, pM, sM⟩
theorem ok_Country_yards (T : Txt K mg A) : FnOk P w K mg base CX0 1 A.Country_yards A.Country_yards_fd ["self"] (spGet A.Country rYardsG) := by
  refine T.F_Country_yards.ok sc_Country_yards (fun vs H Q E h => ?_) (fun cdv A' outer s H vs Q E hr h => ?_)
  · obtain ⟨L, p, rfl, _⟩ := h
    rfl
  · obtain ⟨L, p, rfl, ⟨dx, l, d, e, y, g, rs, qs, ho, C⟩, k⟩ := h
    refine ⟨_, (pss_one (ps_ret (show PE _ _ (tCB (rListOf K) _) from (pe_callTy (T := "list") call_list_of (by rfl) T.n_list (by decide +kernel) (pa_cons (show PE _ _ (tFld K _ _) from pe_fld (pv 0) rfl) pa_nil))))), ?_⟩
    refine ⟨_, rfl, p, _, dx, _, _, rfl, ho, T.cl_Country, T.na_Country_yards, fl_y, y, _, rfl, .inl (Evl.sq_of C.y_), fun q hq => ?_⟩
    exact k q _ (Ex.new hq) hq upd_same
theorem ok_Country_ahead (T : Txt K mg A) : FnOk P w K mg base CX0 1 A.Country_ahead A.Country_ahead_fd ["self", "place", "goal"] (spNext A.Country) := by
  refine T.F_Country_ahead.ok sc_Country_ahead (fun vs H Q E h => ?_) (fun cdv A' outer s H vs Q E hr h => ?_)
  · obtain ⟨L, vt, p, i, goal, rfl, _⟩ := h
    rfl
  · obtain ⟨L, vt, p, i, goal, rfl, ⟨dx, l, d, e, y, g, rs, qs, ho, C⟩, G, ne, hi, hg, k⟩ := h
    have hu := hu_of hr
    refine ⟨_, (pss_one (ps_ret (pe_dget hu (pe_dget hu (show PE _ _ (tFld K _ _) from pe_fld (pv 0) rfl) (pv 2) (fun _ _ => rfl)) (pv 1) (fun _ _ => rfl)))), ?_⟩
    have hl : goal < qs.length := by rw [C.ql]; exact hg
    obtain ⟨kvs, hA, hq⟩ := C.q_ goal qs[goal] (List.getElem?_eq_getElem hl)
    obtain ⟨h, r, e1, P1⟩ := hA.next G.tr ((G.vs_ _).mpr hg) ((G.vs_ _).mpr hi) ne
    have v1 : valV ((keysN (L.length + 1)).zip (qs.map V.ref)) (keyN goal) = some (.ref qs[goal]) := by
      rw [valV_keysN (by rw [List.length_map, C.ql]) hg, List.getElem?_map, List.getElem?_eq_getElem hl]
      rfl
    refine ⟨_, rfl, p, _, dx, _, _, rfl, ho, T.cl_Country, T.na_Country_ahead, fl_e, _, rfl, e, _, rfl, .inl ⟨_, keyN goal, .inl C.e_, rfl, v1.symm⟩, _, rfl, qs[goal], vI h, rfl, .inl ⟨_, keyN i, .inl hq, rfl, ?_⟩, k h r P1⟩
    rw [valV_kv, e1]
    rfl
theorem ok_is_place (T : Txt K mg A) : FnOk P w K mg base CX0 3 A.is_place A.is_place_fd ["country", "value"] (spPlace A.Country) := by
  refine T.F_is_place.ok sc_is_place (fun vs H Q E h => ?_) (fun cdv A' outer s H vs Q E hr h => ?_)
  · obtain ⟨L, p, i, rfl, _⟩ := h
    rfl
  · obtain ⟨L, p, i, rfl, hC, k⟩ := h
    refine ⟨_, (pss_one (ps_ret (pe_and (pe_call (ok_is_count T) (hr.mono (by decide)) (by rfl) T.m_is_count T.F_is_count.kp T.b_is_count .nil pass0 (pa_cons (pv 1) pa_nil)) (pe_one (pe_cmpR op_le (pv 1) (show PE _ _ (tCB (rLenA K) _) from (pe_callB (id := "len") call_len (by rfl) T.n_len (by decide +kernel) (pa_cons (pe_prop (pv 0) T.cl_Country T.pr_Country_lanes (ok_Country_lanes T) (hr.mono (by decide)) T.b_Country_lanes .nil pass0 rfl) pa_nil))) (nomark _)))))), ?_⟩
    obtain ⟨dx, l, d, e, y, g, rs, qs, ho, C⟩ := id hC
    refine ⟨_, rfl, (i : Int), rfl, true, ?_, iteT ?_⟩
    · rw [decide_eq_true (Int.natCast_nonneg _)]
    · refine ⟨_, rfl, _, rfl, p, dx, _, rfl, ho, L, p, rfl, hC, fun q H1 e1 hq ⟨M, ⟨ls, hl, hp⟩, pM, _⟩ => ?_⟩
      have lM : ls.length = L.length := by rw [PySem.Paired.length hp, pM.length_eq]; unfold norm; rw [List.length_map]
      refine ⟨_, _, rfl, .inl ⟨ls, Evl.sq_of hl, rfl⟩, _, _, rfl, rfl, ?_⟩
      have z := k H1 e1
      show Q (V.bl (decide ((i : Int) ≤ (ls.length : Int)))) H1
      rw [lM]
      by_cases c : i < L.length + 1
      · rw [decide_eq_true c] at z
        rw [decide_eq_true (by omega)]
        exact z
      · rw [decide_eq_false c] at z
        rw [decide_eq_false (by omega)]
        exact z
theorem ok_is_yard (T : Txt K mg A) : FnOk P w K mg base CX0 3 A.is_yard A.is_yard_fd ["country", "value"] (spYard A.Country) := by
  refine T.F_is_yard.ok sc_is_yard (fun vs H Q E h => ?_) (fun cdv A' outer s H vs Q E hr h => ?_)
  · obtain ⟨L, p, i, rfl, _⟩ := h
    rfl
  · obtain ⟨L, p, i, rfl, hC, k⟩ := h
    refine ⟨_, (pss_one (ps_ret (pe_and (pe_call (ok_is_count T) (hr.mono (by decide)) (by rfl) T.m_is_count T.F_is_count.kp T.b_is_count .nil pass0 (pa_cons (pv 1) pa_nil)) (pe_one (show PE _ _ (tOp (rIn K false) _ _) from pe_cmpR op_in_seq (pv 1) (pe_prop (pv 0) T.cl_Country T.pr_Country_yards (ok_Country_yards T) (hr.mono (by decide)) T.b_Country_yards .nil pass0 rfl) (by rfl)))))), ?_⟩
    obtain ⟨dx, l, d, e, y, g, rs, qs, ho, C⟩ := id hC
    refine ⟨_, rfl, (i : Int), rfl, true, ?_, iteT ?_⟩
    · rw [decide_eq_true (Int.natCast_nonneg _)]
    · refine ⟨_, rfl, _, rfl, p, dx, _, rfl, ho, L, p, rfl, hC, fun q H1 e1 hq hy => ?_⟩
      refine ⟨q, _, rfl, .inl (Evl.sq_of hy), rfl, flat_vIs _, ?_⟩
      show Q (V.bl (inV (vI i) (vIs (yardsL L)))) H1
      rw [inV_vIs]
      exact k H1 e1
theorem ok_Country_neighbours (T : Txt K mg A) : FnOk P w K mg base CX0 4 A.Country_neighbours A.Country_neighbours_fd ["self", "place"] (spNbs A.Country) := by
  refine T.F_Country_neighbours.ok sc_Country_neighbours (fun vs H Q E h => ?_) (fun cdv A' outer s H vs Q E hr h => ?_)
  · obtain ⟨L, p, i, rfl, _⟩ := h
    rfl
  · obtain ⟨L, p, i, rfl, hC, hi, k⟩ := h
    have hu := hu_of hr
    refine ⟨_, (pss_cons (ps_if (pt_not (pt_val (pe_call (ok_is_place T) (hr.mono (by decide)) (by rfl) T.m_is_place T.F_is_place.kp T.b_is_place .nil pass0 (pa_cons (pv 0) (pa_cons (pv 1) pa_nil))))) (pss_one ps_never) pss_nil) (pss_one (ps_ret (show PE _ _ (tCB (rListOf K) _) from (pe_callTy (T := "list") call_list_of (by rfl) T.n_list (by decide +kernel) (pa_cons (pe_dget hu (show PE _ _ (tFld K _ _) from pe_fld (pv 0) rfl) (pv 1) (fun _ _ => rfl)) pa_nil)))))), ?_⟩
    refine p_skip (Evl.et_is (Evl.et_not (a := true) (evt_P (evp_callA (vs := [.ref p, vI i]) (Evl.ea_cons (Evl.ev_var rfl) (Evl.ea_cons (Evl.ev_var rfl) Evl.ea_nil)) (fun H2 e2 Q q => ⟨L, p, i, rfl, hC.ex e2, fun H3 e3 => q _ H3 e3 (by rw [decide_eq_true hi]; rfl)⟩) (fun _ _ _ _ _ _ _ h => h)))) rfl) fun H1 e1 => ?_
    obtain ⟨dx, l, d, e, y, g, rs, qs, ho, C⟩ := hC.ex e1
    obtain ⟨r, hr1, hr2, vr⟩ := C.r_.get hi
    refine ⟨_, rfl, p, _, dx, _, _, rfl, ho, T.cl_Country, T.na_Country_around, fl_d, _, rfl, d, _, rfl, .inl ⟨_, keyN i, .inl C.d_, rfl, vr.symm⟩, r, _, rfl, .inl (Evl.sq_of hr2), fun q hq => ?_⟩
    exact k q _ (e1.trans (Ex.new hq)) (Evl.fresh_back e1 hq) upd_same
theorem ok_is_neighbour (T : Txt K mg A) : FnOk P w K mg base CX0 5 A.is_neighbour A.is_neighbour_fd ["country", "place", "value"] (spIsNb A.Country) := by
  refine T.F_is_neighbour.ok sc_is_neighbour (fun vs H Q E h => ?_) (fun cdv A' outer s H vs Q E hr h => ?_)
  · obtain ⟨L, p, i, j, rfl, _⟩ := h
    rfl
  · obtain ⟨L, p, i, j, rfl, hC, hi, k⟩ := h
    refine ⟨_, (pss_one (ps_ret (pe_and (pe_call (ok_is_count T) (hr.mono (by decide)) (by rfl) T.m_is_count T.F_is_count.kp T.b_is_count .nil pass0 (pa_cons (pv 2) pa_nil)) (pe_one (show PE _ _ (tOp (rIn K false) _ _) from pe_cmpR op_in_seq (pv 2) (pe_meth (pv 0) T.cl_Country T.me_Country_neighbours (ok_Country_neighbours T) (hr.mono (by decide)) T.b_Country_neighbours .nil pass0 (pa_cons (pv 1) pa_nil)) (by rfl)))))), ?_⟩
    obtain ⟨dx, l, d, e, y, g, rs, qs, ho, C⟩ := id hC
    refine ⟨_, rfl, (j : Int), rfl, true, ?_, iteT ?_⟩
    · rw [decide_eq_true (Int.natCast_nonneg _)]
    · refine ⟨_, rfl, _, rfl, p, dx, _, rfl, ho, fl_no (by rfl), _, rfl, L, p, i, rfl, hC, hi, fun q H1 e1 hq hy => ?_⟩
      refine ⟨q, _, rfl, .inl (Evl.sq_of hy), rfl, flat_vIs _, ?_⟩
      show Q (V.bl (inV (vI j) (vIs (adj L i)))) H1
      rw [inV_vIs]
      exact k H1 e1
theorem ok_check_country (T : Txt K mg A) : FnOk P w K mg base CX0 1 A.check_country A.check_country_fd ["country"] (spCheckC A.Country) := by
  refine T.F_check_country.ok sc_check_country (fun vs H Q E h => ?_) (fun cdv A' outer s H vs Q E hr h => ?_)
  · obtain ⟨L, p, rfl, _⟩ := h
    rfl
  · obtain ⟨L, p, rfl, hC, k⟩ := h
    refine ⟨_, (pss_one (ps_if (pt_not (pt_val (show PE _ _ (tCB (rIsi K) _) from (pe_callB (id := "isinstance") call_isi (by rfl) T.n_isinstance (by decide +kernel) (pa_cons (pv 0) (pa_cons (pe_glob (v := .ref A.Country) rfl T.m_Country rfl) pa_nil)))))) (pss_one ps_never) pss_nil)), ?_⟩
    obtain ⟨dx, l, d, e, y, g, rs, qs, ho, C⟩ := id hC
    have I := T.ic_Country
    refine p_skip1 (Evl.et_is (Evl.et_not (a := true) (evt_P (evp_ev (ev_cb2 (z := .bl true) (Evl.ev_var rfl) Evl.ev_c fun H1 e1 Q q => ⟨_, _, _, _, true, rfl, .own _, .base (.ins (e1 _ _ ho) I.cl I.ha I.hn I.htk I.hm), I.me, q⟩)))) rfl) fun H1 e1 => k H1 e1
theorem ok_check_yard (T : Txt K mg A) : FnOk P w K mg base CX0 4 A.check_yard A.check_yard_fd ["country", "yard"] (spCheckY A.Country) := by
  refine T.F_check_yard.ok sc_check_yard (fun vs H Q E h => ?_) (fun cdv A' outer s H vs Q E hr h => ?_)
  · obtain ⟨L, p, i, rfl, _⟩ := h
    rfl
  · obtain ⟨L, p, i, rfl, hC, hi, k⟩ := h
    refine ⟨_, (pss_one (ps_if (pt_not (pt_val (pe_call (ok_is_yard T) (hr.mono (by decide)) (by rfl) T.m_is_yard T.F_is_yard.kp T.b_is_yard .nil pass0 (pa_cons (pv 0) (pa_cons (pv 1) pa_nil))))) (pss_one ps_never) pss_nil)), ?_⟩
    refine p_skip1 (Evl.et_is (Evl.et_not (a := true) (evt_P (evp_callA (vs := [.ref p, vI i]) (Evl.ea_cons (Evl.ev_var rfl) (Evl.ea_cons (Evl.ev_var rfl) Evl.ea_nil)) (fun H2 e2 Q q => ⟨L, p, i, rfl, hC.ex e2, fun H3 e3 => q _ H3 e3 (by rw [decide_eq_true hi]; rfl)⟩) (fun _ _ _ _ _ _ _ h => h)))) rfl) fun H1 e1 => k H1 e1
theorem ok_check_country_and_yard (T : Txt K mg A) : FnOk P w K mg base CX0 5 A.check_country_and_yard A.check_country_and_yard_fd ["country", "yard"] (spCheckY A.Country) := by
  refine T.F_check_country_and_yard.ok sc_check_country_and_yard (fun vs H Q E h => ?_) (fun cdv A' outer s H vs Q E hr h => ?_)
  · obtain ⟨L, p, i, rfl, _⟩ := h
    rfl
  · obtain ⟨L, p, i, rfl, hC, hi, k⟩ := h
    refine ⟨_, (pss_cons (ps_expr (pe_call (ok_check_country T) (hr.mono (by decide)) (by rfl) T.m_check_country T.F_check_country.kp T.b_check_country .nil pass0 (pa_cons (pv 0) pa_nil))) (pss_one (ps_expr (pe_call (ok_check_yard T) (hr.mono (by decide)) (by rfl) T.m_check_yard T.F_check_yard.kp T.b_check_yard .nil pass0 (pa_cons (pv 0) (pa_cons (pv 1) pa_nil)))))), ?_⟩
    refine ⟨_, rfl, L, p, rfl, hC, fun H1 e1 => ⟨_, rfl, _, rfl, L, p, i, rfl, hC.ex e1, hi, fun H2 e2 => k H2 (e1.trans e2)⟩⟩
theorem ok_check_target (T : Txt K mg A) : FnOk P w K mg base CX0 6 A.check_target A.check_target_fd ["country", "yard", "target"] (spCheckT A.Country) := by
  refine T.F_check_target.ok sc_check_target (fun vs H Q E h => ?_) (fun cdv A' outer s H vs Q E hr h => ?_)
  · obtain ⟨L, p, i, j, rfl, _⟩ := h
    rfl
  · obtain ⟨L, p, i, j, rfl, hC, hi, hj, k⟩ := h
    refine ⟨_, (pss_one (ps_if (pt_not (pt_val (pe_call (ok_is_neighbour T) (hr.mono (by decide)) (by rfl) T.m_is_neighbour T.F_is_neighbour.kp T.b_is_neighbour .nil pass0 (pa_cons (pv 0) (pa_cons (pv 1) (pa_cons (pv 2) pa_nil)))))) (pss_one ps_never) pss_nil)), ?_⟩
    refine p_skip1 (Evl.et_is (Evl.et_not (a := true) (evt_P (evp_callA (vs := [.ref p, vI i, vI j]) (Evl.ea_cons (Evl.ev_var rfl) (Evl.ea_cons (Evl.ev_var rfl) (Evl.ea_cons (Evl.ev_var rfl) Evl.ea_nil))) (fun H2 e2 Q q => ⟨L, p, i, j, rfl, hC.ex e2, hi, fun H3 e3 => q _ H3 e3 (by rw [decide_eq_true hj]; rfl)⟩) (fun _ _ _ _ _ _ _ h => h)))) rfl) fun H1 e1 => k H1 e1
theorem ok_yards_behind (T : Txt K mg A) : FnOk P w K mg base CX0 3 A.yards_behind A.yards_behind_fd ["country", "yard", "target"] (spBehind A.Country) := by
  refine T.F_yards_behind.ok sc_yards_behind (fun vs H Q E h => ?_) (fun cdv A' outer s H vs Q E hr h => ?_)
  · obtain ⟨L, vt, N, p, y, t, rfl, _⟩ := h
    rfl
  · obtain ⟨L, vt, N, p, y, t, rfl, hC, G, I, hy, ht, k⟩ := h
    refine ⟨_, (pss_one (ps_ret (pe_lc (own := [("other", 3)]) rfl sc_yards_behind.nd (show PI _ _ _ (iList K _) from pi_list (pe_prop (pv 0) T.cl_Country T.pr_Country_yards (ok_Country_yards T) (hr.mono (by decide)) T.b_Country_yards .nil pass0 rfl)) (blkOk_by (N := n_yards_behind) (sc := defScope s_yards_behind) (by decide +kernel)) (fun _ _ _ _ _ => (pg_name (i := 3) sc_yards_behind.nd rfl (Or.inl rfl))) (fun _ _ _ _ _ => (pts_one (PW.pt (pw_or (pt_cmpR op_eq (pv 3) (pv 1) (nomark _)) (pw_or1 (pt_cmpR op_ne (pe_meth (pv 0) T.cl_Country T.me_Country_ahead (ok_Country_ahead T) (hr.mono (by decide)) T.b_Country_ahead .nil pass0 (pa_cons (pv 1) (pa_cons (pv 3) pa_nil))) (pv 2) (nomark _))))))) (fun _ _ _ _ _ => (pv 3))))), ?_⟩
    have hyb : y < L.length + 1 := (mem_yards.mp hy).1
    have e12 : Ex H H := Ex.refl _
    have hC2 := hC
    obtain ⟨dx, l, d, e, yy, g, rs, qs, ho, C⟩ := id hC2
    have hyl : EvP (tProp A.Country (spGet A.Country rYardsG) [] E0 (tVar 0)) [some (.ref p), some (vI y), some (vI t), none] H (fun v _ Hb => ∃ p, v = .ref p ∧ Hb p = some (.lst (vIs (yardsL L)))) := fun H3 e3 Q q =>
      ⟨_, rfl, p, dx, _, rfl, e3 _ _ ho, L, p, rfl, hC2.ex e3, fun q' H4 e4 _ hq' => q _ H4 e4 ⟨q', rfl, hq'⟩⟩
    refine p_ret (P := NewL (vIs ((yardsL L).filter (beh N y t)))) (EvP.imp (P := NewL (((List.range (vIs (yardsL L)).length).filter fun i => beh N y t ((yardsL L).getD i 0)).map fun i => vI ((yardsL L).getD i 0))) (lcV (src_listN (K := K) hyl) ?_ (fun i x => [some (.ref p), some (vI y), some (vI t), some x]) (fun _ _ => rfl) (fun _ _ _ _ _ _ _ q => q) (fun i => beh N y t ((yardsL L).getD i 0)) (fun i => vI ((yardsL L).getD i 0)) (fun i x H3 e3 hi hx => ?_) (fun i x H3 e3 hi hx _ => ?_)) (fun v Ha Hb _ _ h => ?_)) fun v H3 e3 h => ?_
    · rw [List.length_map]
      have := G.most
      omega
    · have hi2 : i < (yardsL L).length := by rw [List.length_map] at hi; exact hi
      have ex : x = vI ((yardsL L).getD i 0) := by
        rw [List.getElem?_map, List.getElem?_eq_getElem hi2] at hx
        rw [List.getD_eq_getElem?_getD, List.getElem?_eq_getElem hi2]
        exact (Option.some.inj hx).symm
      have hm : (yardsL L).getD i 0 ∈ yardsL L := by
        rw [List.getD_eq_getElem?_getD, List.getElem?_eq_getElem hi2]
        exact List.getElem_mem hi2
      subst ex
      generalize (yardsL L).getD i 0 = u at hm hx
      have hub : u < L.length + 1 := (mem_yards.mp hm).1
      unfold beh
      refine Evl.et_or (a := decide (u = y)) (b := !decide (N u y = t)) (Evl.et_is (Evl.et_test (Evl.ev_op (Evl.ev_var rfl) (Evl.ev_var rfl) (Evl.rv_eq rfl))) ?_) fun hne => ?_
      · by_cases c : u = y
        · subst c
          simp
        · rw [decide_eq_false c, decide_eq_false (fun z => c (by injection z with z; omega))]
      · have nuy : y ≠ u := fun z => by rw [decide_eq_true z.symm] at hne; cases hne
        refine Evl.et_is (Evl.et_test (Evl.ev_op (x := vI (N u y)) (y := vI t) ?_ (Evl.ev_var rfl) (Evl.rv_ne rfl))) ?_
        · intro H4 e4 Q q
          have e34 := e3.trans e4
          refine ⟨_, rfl, p, dx, _, rfl, e34 _ _ ho, fl_no (by rfl), _, rfl, _, rfl, L, vt, p, y, u, rfl, hC2.ex e34, G, nuy, hyb, hub, fun h r P1 => ?_⟩
          have := next_of G.tr I P1
          subst this
          exact q H4 (Ex.refl _)
        · by_cases c : N u y = t
          · rw [c]
            simp
          · rw [decide_eq_false c, decide_eq_false (fun z => c (by injection z with z; omega))]
    · have hi2 : i < (yardsL L).length := by rw [List.length_map] at hi; exact hi
      have ex : x = vI ((yardsL L).getD i 0) := by
        rw [List.getElem?_map, List.getElem?_eq_getElem hi2] at hx
        rw [List.getD_eq_getElem?_getD, List.getElem?_eq_getElem hi2]
        exact (Option.some.inj hx).symm
      subst ex
      exact Evl.ev_var rfl
    · obtain ⟨q, rfl, hq, h⟩ := h
      refine ⟨q, rfl, hq, ?_⟩
      rw [h, List.length_map]
      have f : ∀ (l : List Nat) (p : Nat → Bool), (((List.range l.length).filter fun i => p (l.getD i 0)).map fun i => vI (l.getD i 0)) = vIs (l.filter p) := by
        intro l p
        have e : l = (List.range l.length).map fun i => l.getD i 0 := by
          refine List.ext_getElem (by simp) fun i h1 h2 => ?_
          rw [List.getElem_map, List.getElem_range, List.getD_eq_getElem?_getD, List.getElem?_eq_getElem h1]
          rfl
        conv => rhs; rw [e, List.filter_map]
        unfold vIs
        rw [List.map_map]
        rfl
      rw [f]
    · obtain ⟨q, rfl, hq, h⟩ := h
      exact k q H3 (e12.trans e3) (Evl.fresh_back e12 hq) h
theorem ok_behind (T : Txt K mg A) : FnOk P w K mg base CX0 7 A.behind A.behind_fd ["country", "yard", "target"] (spBehind A.Country) := by
  refine T.F_behind.ok sc_behind (fun vs H Q E h => ?_) (fun cdv A' outer s H vs Q E hr h => ?_)
  · obtain ⟨L, vt, N, p, y, t, rfl, _⟩ := h
    rfl
  · obtain ⟨L, vt, N, p, y, t, rfl, hC, G, I, hy, ht, k⟩ := h
    refine ⟨_, (pss_cons (ps_expr (pe_call (ok_check_country_and_yard T) (hr.mono (by decide)) (by rfl) T.m_check_country_and_yard T.F_check_country_and_yard.kp T.b_check_country_and_yard .nil pass0 (pa_cons (pv 0) (pa_cons (pv 1) pa_nil)))) (pss_cons (ps_expr (pe_call (ok_check_target T) (hr.mono (by decide)) (by rfl) T.m_check_target T.F_check_target.kp T.b_check_target .nil pass0 (pa_cons (pv 0) (pa_cons (pv 1) (pa_cons (pv 2) pa_nil))))) (pss_one (ps_ret (pe_call (ok_yards_behind T) (hr.mono (by decide)) (by rfl) T.m_yards_behind T.F_yards_behind.kp T.b_yards_behind .nil pass0 (pa_cons (pv 0) (pa_cons (pv 1) (pa_cons (pv 2) pa_nil)))))))), ?_⟩
    have hyb : y < L.length + 1 := (mem_yards.mp hy).1
    refine ⟨_, rfl, _, rfl, L, p, y, rfl, hC, hy, fun H1 e1 => ?_⟩
    refine ⟨_, rfl, _, rfl, _, rfl, L, p, y, t, rfl, hC.ex e1, hyb, ht, fun H2 e2 => ?_⟩
    have e12 := e1.trans e2
    exact ⟨_, rfl, _, rfl, _, rfl, L, vt, N, p, y, t, rfl, hC.ex e12, G, I, hy, ht, fun q H3 e3 f3 h3 => k q H3 (e12.trans e3) (Evl.fresh_back e12 f3) h3⟩
end
end K15
set_option Elab.async false
set_option linter.all false
set_option maxRecDepth 100000
set_option maxHeartbeats 4000000
/-! defs that ask for a written form: run where no written form is under way; calls by keywords alone -/
namespace G8
open PySem PySem.Spec PyProof.Rows L2
structure FnOkG (P : Program) (w : World) (K : PySem.W.Frag) (mg : Str → Option Value) (base : Heap) (CX : CXT) (k : Nat) (f : Addr) (fd : FuncData) (ps : List Str) (sp : Sp) : Prop where
  len : ∀ vs H Q E, sp vs H Q E → vs.length = ps.length
  run : ∀ (A : Around) (outer : List Env) (s : Shared) (H : Hp) (args : Args) (us : List Value) (vs : List V) (Q : VK) (E : XK), Room k A → A.guards = some [] → Env0 P w K mg base A outer s H → BindsTo s fd args (ps.zip us) → Vals vs us → sp vs H Q E →
    codeAny (model P w) A (.call (.ref f) args) (CR CX outer P w H s Q E) s
section
variable {X : Cx} {CX : CXT} {k : Nat} {f : Addr} {fd : FuncData} {ps : List Str} {sp : Sp} {E : XK} {ds : List Value} {dvs : List V}
theorem run_fnG {pins : List (Addr × Obj)} {σ : L2.St} {H : Hp} {s : Shared} {Q : VK} {us : List Value} {vs : List V} (F : FnOkG X.prog X.w X.K X.mg X.base CX k f fd ps sp) (hr : Room k X.A) (hG : X.A.guards = some []) (hb : L2.Binds X.K fd ps ds) (hd : Vals dvs ds) (hx : Passes CX X E)
    (I : Inv X pins σ H s) (r : Vals vs us) (h : sp (vs ++ dvs) H Q E) : wpAny (model X.prog X.w) X.A (call (.ref f) us) (EP X pins σ Q) X.xe s := by
  have r2 : Vals (vs ++ dvs) (us ++ ds) := r.append hd
  have hl : (us ++ ds).length = ps.length := by rw [← r2.length]; exact F.len _ _ _ _ h
  refine wpAny_call (codeAny_mono (F.run X.A X.stack s H ⟨us, []⟩ (us ++ ds) (vs ++ dvs) Q E hr hG I.env0 (hb s us I.kIn hl) r2 h) fun r s' hq => ?_)
  cases r with
  | error e => exact hx pins σ H s e s' I hq
  | ok fl =>
    cases fl with
    | ret u => exact I.after hq
    | next => exact False.elim hq
    | brk => exact False.elim hq
    | cont => exact False.elim hq
theorem pe_callG {x : Str} {p pos : Pos} {e : Expr} {es : List Expr} {t : TA} (F : FnOkG X.prog X.w X.K X.mg X.base CX k f fd ps sp) (hr : Room k X.A) (hG : X.A.guards = some []) (hg : Gl X x) (hm : X.mg x = some (.ref f)) (hk : PySem.W.keepIn X.K (.ref f) = true) (hb : L2.Binds X.K fd ps ds) (hd : Vals dvs ds) (hx : Passes CX X E)
    (ha : PA X (e :: es) t) (hdb : (x == ("__debug__" : Str)) = false := by decide) (he : starEach (e :: es) X.env = (false, eval e X.env) :: starEach es X.env := by rfl) (hpl : (backTo pos (starEach es X.env)).any (·.1) = false := by rfl) :
    PE X (.Call (.Name x p) (e :: es) [] pos) (tCall sp dvs E t) := by
  refine ⟨fun pins s σ H Q I h => ?_⟩
  refine wpAny_Call_Name_kw (ld_glob I hg hm ?_ hdb)
  refine PySem.W.callWith_K (h₀ := X.base) I.ok.mod.kin hk (thn (ha.run pos pins s σ H _ I h) fun us s1 ⟨vs, H1, I1, r, q⟩ => ⟨I1.kIn, ?_⟩) he hpl
  exact run_fnG F hr hG hb hd hx I1 r q
/-- f(a = .., b = ..): no argument by place -/
theorem pe_callK0 {x : Str} {p pos : Pos} {kws : List Keyword} {ks : List Str} {tk : TA} {g : List Value → List Value → List Value} {gV : List V → List V → List V} (F : FnOk X.prog X.w X.K X.mg X.base CX k f fd ps sp) (hr : Room k X.A) (hg : Gl X x) (hm : X.mg x = some (.ref f)) (hk : PySem.W.keepIn X.K (.ref f) = true) (hb : KBinds X.K fd ps ks g gV) (hx : Passes CX X E)
    (hkw : PK X kws tk) (hall : (backToKw pos (keywordEach kws X.env)).all (·.1.isSome) = true := by rfl) (hks : (backToKw pos (keywordEach kws X.env)).filterMap (·.1) = ks := by rfl)
    (hdb : (x == ("__debug__" : Str)) = false := by decide)
    (hpl : ((backTo pos (starEach [] X.env)).any (·.1) || (backToKw pos (keywordEach kws X.env)).any (·.1.isNone)) = false := by rfl) :
    PE X (.Call (.Name x p) [] kws pos) (tCallK sp gV E tNil tk) := by
  refine ⟨fun pins s σ H Q I h => ?_⟩
  refine wpAny_Call_Name_kw (ld_glob I hg hm ?_ hdb)
  refine PySem.W.callWith_KW0 (h₀ := X.base) I.ok.mod.kin hk hall ?_ hpl
  refine thn (hkw.run pos pins s σ H _ I h) fun ws s2 ⟨zs, H2, I2, rz, q2⟩ => ⟨I2.kIn, ?_⟩
  rw [hks]
  exact run_fnk F hr hb hx I2 .nil rz q2
/-! ### a written form -/
def rRepr (K : PySem.W.Frag) : List V → Hp → VK → Prop := fun xs H Q => ∃ a d, xs = [.ref a] ∧ Dp K H (.ref a) d ∧ d.showable = true ∧ d.hasDict = false ∧ d.depth ≤ 60 ∧ d.shown.length ≤ sizeLine ∧ Q (.str d.shown) H
theorem cr_repr (hG : X.A.guards = some []) (hu : X.A.units + 64 < cLine) : CallR X (.builtin "repr") (rRepr X.K) := by
  intro pins s σ H xs us Q I r h
  obtain ⟨a, d, rfl, hD, hs, hh, hd, hz, q⟩ := h
  obtain ⟨u, rfl, ru⟩ := vals1 r
  obtain rfl : u = Value.ref a := ru
  obtain ⟨as, R⟩ := hD.reads I _ _ (Value.ref a) rfl
  refine repr_of_reads' R hs (PyData.noDict_hsm hh) hG (by omega) (fun _ _ e => e) (fun h' u tk hk => ?_) hz
  exact ⟨.str d.shown, H, I.kept hk, ⟨u, rfl⟩, q⟩
end
section
variable {P : Program} {w : World} {K : PySem.W.Frag} {mg : Str → Option Value} {base : Heap}
theorem okG {x qual : Str} {st : Stmt} {f : Addr} {fd : FuncData} {N ps : List Str} {k : Nat} {sp : Sp} (F : Fun K x qual st f fd) (S : FnScope N ps (defScope st)) (len : ∀ vs H Q E, sp vs H Q E → vs.length = ps.length)
    (hbody : ∀ (cdv : Value) (A : Around) (outer : List Env) (s : Shared) (H : Hp) (vs : List V) (Q : VK) (E : XK), Room k (A.deeper (envOfC qual (defScope st) s.heap.objs.size f cdv)) → (A.deeper (envOfC qual (defScope st) s.heap.objs.size f cdv)).guards = some [] → sp vs H Q E →
      ∃ t, PSs (cxOf CX0 P w K mg base N qual (defScope st) f cdv A outer s H E).nox (defBody st) t ∧ t { nx := fun _ H' => Q .non H', rt := Q } (start N vs) H) : FnOkG P w K mg base CX0 (k + 1) f fd ps sp := by
  obtain ⟨oc, od, kV, doc, pm, an, cdv, ct, osl, rfl, lk, hcd⟩ := F.ex
  refine ⟨len, fun A outer s H args us vs Q E hr hG e0 hb r hsp => ?_⟩
  -- what fn_of does, at A alone
  have hl := len _ _ _ _ hsp
  have KX : K.In s.heap := e0.mod.kin.keeps fun b o e => (e0.bs b o e).1
  have lim : s.heap.NoLimit := e0.mod.nolimit.keeps fun b o e => (e0.bs b o e).1
  have hkind : ∀ y ∈ ps.zip us, (defScope st).names.lookup y.1 = some .local ∨ ((defScope st).names.lookup y.1 = some .cell ∧ ((cellsFrom (s.heap.objs.size + 1) (defScope st).names []).lookup y.1).isSome = true) := fun ⟨n, v⟩ hy => by
    rcases S.par n (List.of_mem_zip hy).1 with q | q
    · exact .inl q
    · exact .inr ⟨q, PySem.W.cellsFrom_some _ _ _ (.inl q)⟩
  refine codeAny_call_function hr.depth (KX _ _ lk) rfl S.co S.gen rfl (PySem.W.codeRec_of KX hcd) (hb _ _ _ _ ?_)
  refine wpAny_newFunctionEnv_cells S.kind hkind fun env he s1 x => ?_
  subst he
  refine ⟨lim.keeps x.toInCall.keep, codeAny_func ?_⟩
  obtain ⟨t, ht, hq⟩ := hbody cdv A outer s H vs Q E (hr.deeper _) hG hsp
  have I : Inv (cxOf CX0 P w K mg base N qual (defScope st) f cdv A outer s H E) [] (start N vs) H s1 := inv_start S hr.hd e0 hl r x
  refine wpAny_mono (ht.nox.run [] s1 (start N vs) H _ I hq) (fun fl s' hs => ?_) fun e s' hs => hs
  have fin : ∀ {σ' : L2.St} {H' : Hp} {v : V} {u : Value}, Inv (cxOf CX0 P w K mg base N qual (defScope st) f cdv A outer s H E) [] σ' H' s' → RelV v u → Q v H' → CE outer P w H s Q u s' :=
    fun {σ' H' v u} J rv q => ⟨v, H', J.os, J.bare, J.base, J.hok, rv, q⟩
  cases fl with
  | ret u =>
    obtain ⟨v, σ', H', J, rv, q⟩ := hs
    exact fin J rv q
  | next =>
    obtain ⟨σ', H', J, q⟩ := hs
    exact fin (v := V.non) (u := Value.none) J rfl q
  | brk =>
    obtain ⟨_, _, _, q⟩ := hs
    exact False.elim q
  | cont =>
    obtain ⟨_, _, _, q⟩ := hs
    exact False.elim q
end
end G8

set_option Elab.async false
set_option linter.all false
set_option maxRecDepth 100000
set_option maxHeartbeats 4000000
namespace K15
open PySem PySem.Spec PyProof.Rows L2 TM Pr Ep
open Evl (Ex Ev EvT EvA EvL)
section
variable {P : Program} {w : World} {K : PySem.W.Frag} {mg : Str → Option Value} {base : Heap} {A : Adr}
theorem ok_l_pot (T : Txt K mg A) : FnOk P w K mg base CX0 1 A.l_pot A.l_pot_fd ["_law_script", "_law_k"] (spPot K) := by
  refine T.F_l_pot.ok sc_l_pot (fun vs H Q E h => ?_) (fun cdv A' outer s H vs Q E hr h => ?_)
  · obtain ⟨a, ns, k, rfl, _⟩ := h
    rfl
  · obtain ⟨a, ns, k, rfl, hS, hk, q⟩ := h
    refine ⟨_, (pss_cons (ps_set (i := 2) sc_l_pot.nd rfl (Or.inl rfl) (pe_ifExp (pt_cmpR op_lt (pv 1) (show PE _ _ (tCB (rLenA K) _) from (pe_callB (id := "len") call_len (by rfl) T.n_len (by decide +kernel) (pa_cons (pv 0) pa_nil))) (nomark _)) (pe_callB (id := "abs") call_abs (by rfl) T.n_abs (by decide +kernel) (pa_cons (show PE _ _ (tOp (rIxL K) _ _) from pe_ix ix_list (pv 0) (pv 1) (fun _ _ => rfl)) pa_nil)) (pe_op op_add (pe_op op_mul pe_int (pv 1)) pe_int))) (pss_cons (ps_set (i := 3) sc_l_pot.nd rfl (Or.inl rfl) (pe_op op_add (pe_op op_modN (pe_callTy (T := "int") call_int1 (by rfl) T.n_int (by decide +kernel) (pa_cons (pe_op op_add (pe_op op_add (pe_op op_mul (pe_op op_modN (pe_callTy (T := "int") call_int1 (by rfl) T.n_int (by decide +kernel) (pa_cons (pv 2) pa_nil)) pe_int) pe_int) (pe_op op_mul pe_int (pv 1))) pe_int) pa_nil)) pe_int) pe_int)) (pss_one (ps_ret (pe_lst (pa_cons (pe_callB (id := "max") (call_max2 rfl) (by rfl) T.n_max (by decide +kernel) (pa_cons pe_int (pa_cons (pe_op op_sub (pv 2) (pe_op op_pow pe_int pe_int)) pa_nil))) (pa_cons (pv 3) pa_nil))))))), ?_⟩
    have hcell : EvP (tIf (tTest (tOp (rI0 fun i j => V.bl (decide (i < j))) (tVar 1) (tCB (rLenA K) (tCons (tVar 0) tNil)))) (tCB (fun xs H Q => ∃ i, xs = [.int i] ∧ Q (.int (if i < 0 then -i else i)) H) (tCons (tOp (rIxL K) (tVar 0) (tVar 1)) tNil)) (tOp (rI0 fun i j => V.int (i + j)) (tOp (rI CMul fun i j => V.int (i * j)) (tC (.int 739)) (tVar 1)) (tC (.int 347)))) [some (.ref a), some (vI k), none, none] H (fun v _ _ => ∃ c : Int, v = .int c ∧ 0 ≤ c) := by
      intro H1 e1 Q' q'
      have hS1 := Evl.ex_l e1 hS
      refine ⟨_, rfl, _, rfl, .ref a, _, rfl, .inl ⟨_, hS1, rfl⟩, _, _, rfl, rfl, _, rfl, ?_⟩
      refine ite2 (fun hc => ?_) (fun hc => ?_)
      · have hlt : k < ns.length := by
          have := of_decide_eq_true hc
          rw [List.length_map] at this
          omega
        refine ⟨_, rfl, _, rfl, a, _, _, .int ns[k], rfl, rfl, hS1, at_of rfl (by rw [List.getElem?_map, List.getElem?_eq_getElem hlt]; rfl), ns[k], rfl, q' _ H1 (Ex.refl _) ⟨_, rfl, ?_⟩⟩
        split <;> omega
      · refine ⟨_, rfl, _, _, rfl, rfl, .inl ⟨by decide, by decide⟩, _, _, rfl, rfl, q' _ H1 (Ex.refl _) ⟨_, rfl, ?_⟩⟩
        omega
    refine p_asg hcell fun v H1 e1 hv => ?_
    obtain ⟨c, rfl, hc⟩ := hv
    -- low
    refine ⟨_, rfl, .inl ⟨c, rfl, c, _, rfl, rfl, (by show (2147483549 : Int) ≠ 0; decide), _, _, rfl, rfl, .inr ⟨by decide, by decide⟩, _, rfl, _, _, rfl, rfl, .inl ⟨by decide, by decide⟩, _, _, rfl, rfl, _, _, rfl, rfl, .inl ⟨_, rfl, _, _, rfl, rfl, (by show (2147483563 : Int) ≠ 0; decide), _, _, rfl, rfl, ?_⟩⟩⟩
    -- the pot
    refine ⟨_, rfl, _, _, rfl, rfl, (by exact ⟨by decide, by decide, by decide⟩), _, _, rfl, rfl, _, _, rfl, _, rfl, (by show 2 ≤ sizeLine; decide), fun p hp => ?_⟩
    refine q p _ (e1.trans (Ex.new hp)) (Evl.fresh_back e1 hp) ⟨_, _, upd_same, ?_, ?_, ?_⟩
    · split <;> omega
    · have := Int.fmod_nonneg_of_pos ((c.fmod 2147483549) * 69621 + 9137 * (k : Int) + 103) (b := 2147483563) (by decide)
      omega
    · have := Int.fmod_lt_of_pos ((c.fmod 2147483549) * 69621 + 9137 * (k : Int) + 103) (b := 2147483563) (by decide)
      omega
end
end K15

set_option Elab.async false
set_option linter.all false
set_option maxRecDepth 100000
set_option maxHeartbeats 4000000
namespace K15
open PySem PySem.Spec PyProof.Rows L2 TM Pr Ep
open Evl (Ex Ev EvT EvA EvL)
section
variable {P : Program} {w : World} {K : PySem.W.Frag} {mg : Str → Option Value} {base : Heap} {A : Adr}
theorem ok_l_draw (T : Txt K mg A) : FnOk P w K mg base CX0 1 A.l_draw A.l_draw_fd ["_law_pot_here", "_law_many"] spDraw := by
  refine T.F_l_draw.ok sc_l_draw (fun vs H Q E h => ?_) (fun cdv A' outer s H vs Q E hr h => ?_)
  · obtain ⟨p, m, rfl, _⟩ := h
    rfl
  · obtain ⟨p, m, rfl, ⟨a, b, hp, ha, hb, hb2⟩, hm, hm2, k⟩ := h
    refine ⟨_, (pss_cons (ps_if (pt_cmpR op_gt (show PE _ _ (tOp (rIxL K) _ _) from pe_ix ix_list (pv 0) pe_int (fun _ _ => rfl)) pe_int (nomark _)) (pss_cons (ps_asg (pe_callB (id := "divmod") call_divmod (by rfl) T.n_divmod (by decide +kernel) (pa_cons (show PE _ _ (tOp (rIxL K) _ _) from pe_ix ix_list (pv 0) pe_int (fun _ _ => rfl)) (pa_cons (pv 1) pa_nil))) (show PG _ _ (gTup K 2 _) from pg_tup rfl (pgs_cons (pg_sub (pv 0) pe_int set_list) (pgs_cons (pg_name (i := 2) sc_l_draw.nd rfl (Or.inl rfl)) pgs_nil)))) (pss_one (ps_ret (pv 2)))) pss_nil) (pss_cons (ps_asg (pe_op op_modN (pe_callTy (T := "int") call_int1 (by rfl) T.n_int (by decide +kernel) (pa_cons (pe_op op_add (pe_op op_mul (show PE _ _ (tOp (rIxL K) _ _) from pe_ix ix_list (pv 0) pe_int (fun _ _ => rfl)) pe_int) pe_int) pa_nil)) pe_int) (pg_sub (pv 0) pe_int set_list)) (pss_one (ps_ret (pe_op op_modN (pe_callTy (T := "int") call_int1 (by rfl) T.n_int (by decide +kernel) (pa_cons (pe_op op_fdiv (pe_op op_modN (pe_callTy (T := "int") call_int1 (by rfl) T.n_int (by decide +kernel) (pa_cons (pe_op op_mul (show PE _ _ (tOp (rIxL K) _ _) from pe_ix ix_list (pv 0) pe_int (fun _ _ => rfl)) (show PE _ _ (tOp (rIxL K) _ _) from pe_ix ix_list (pv 0) pe_int (fun _ _ => rfl))) pa_nil)) pe_int) pe_int) pa_nil)) (pv 1)))))), ?_⟩
    have hc : ∀ (z : Int), CDiv z (m : Int) := fun z => ⟨by omega, by omega⟩
    have item : ∀ {H1 : Hp} {xs : List V} {j : Nat} {v : V}, H1 p = some (.lst xs) → xs[j]? = some v → Ev (tOp (rIxL K) (tVar 0) (tC (.int (j : Int)))) [some (.ref p), some (vI m), none] H1 v := fun h g => Evl.ev_op (Evl.ev_var rfl) Evl.ev_c (Evl.rv_ixL (Evl.sq_of h) (at_of rfl g))
    refine Evl.q_when (Evl.et_test (Evl.ev_op (item (j := 0) hp rfl) Evl.ev_c rv_I0P)) (fun _ H0 e0 => ?_) (fun _ H0 e0 => ?_)
    all_goals
      have hp := e0 _ _ hp
      have k : ∀ (d : Nat) (H' : Hp), d < m → PotAt H' p → ExB p H0 H' → Q (vI d) H' := fun d H' h1 h2 h3 => k d H' h1 h2 ((ExB.of e0).trans h3)
    · -- a digit
      refine ⟨_, rfl, p, _, 0, .int a, rfl, rfl, Evl.sq_of hp, at_of (j := 0) rfl rfl, _, rfl, a, m, rfl, hc a, fun t ht => ?_⟩
      have npt : p ≠ t := ne_of_none hp ht
      refine ⟨t, _, rfl, Evl.st_of upd_same, rfl, _, _, rfl, _, rfl, p, _, 0, 0, rfl, rfl, (by rw [upd_ne npt]; exact hp), (Evl.ixN_nat (j := 0) (by show 0 < 2; decide)), _, _, rfl, rfl, ?_⟩
      have hmod := Int.emod_nonneg a (b := (m : Int)) (by omega)
      have hlt := Int.emod_lt_of_pos a (b := (m : Int)) (by omega)
      refine ⟨_, rfl, ?_⟩
      have e : a % (m : Int) = ((a % (m : Int)).toNat : Int) := by omega
      have z := k (a % (m : Int)).toNat (upd (upd H0 t (.tup [.int (a / m), .int (a % m)])) p (.lst [.int (a / m), .int b])) (by omega) ⟨_, _, upd_same, Int.ediv_nonneg ha (by omega), hb, hb2⟩ (fun c o h n => by rw [upd_ne n, upd_ne (ne_of_none h ht)]; exact h)
      have ev : vI (a % (m : Int)).toNat = V.int (a % (m : Int)) := by show V.int _ = _; rw [← e]
      rw [ev] at z
      exact z
    · -- a number of its own
      have hn := Int.fmod_nonneg_of_pos (b * 40014 + 9011) (b := 2147483587) (by decide)
      have hl := Int.fmod_lt_of_pos (b * 40014 + 9011) (b := 2147483587) (by decide)
      refine Evl.q_setL (l := p) (xs := [.int a, .int b]) (j := 1) (v := .int ((b * 40014 + 9011).fmod 2147483587)) hp (Evl.ev_op (ev_cb1 (Evl.ev_op (Evl.ev_op (item (j := 1) hp rfl) Evl.ev_c (Evl.rv_I (.inr ⟨by decide, by decide⟩))) Evl.ev_c rv_I0P) fun _ _ _ q => .inl ⟨_, rfl, q⟩) Evl.ev_c (Evl.rv_I (by show (2147483587 : Int) ≠ 0; decide))) (Evl.ev_var rfl) Evl.ev_c (by show 1 < 2; decide) fun H1 e1 => ?_
      have es : ([V.int a, V.int b]).set 1 (V.int ((b * 40014 + 9011).fmod 2147483587)) = [V.int a, V.int ((b * 40014 + 9011).fmod 2147483587)] := by rfl
      rw [es]
      generalize (b * 40014 + 9011).fmod 2147483587 = c at hn hl ⊢
      have hp2 : (upd H1 p (.lst [.int a, .int c])) p = some (.lst [.int a, .int c]) := upd_same
      refine ⟨_, rfl, p, _, 1, .int c, rfl, rfl, Evl.sq_of hp2, at_of (j := 1) rfl rfl, _, rfl, p, _, 1, .int c, rfl, rfl, Evl.sq_of hp2, at_of (j := 1) rfl rfl, _, _, rfl, rfl, .inl ⟨by omega, by omega⟩, .inl ⟨_, rfl, _, _, rfl, rfl, (by show (2147483563 : Int) ≠ 0; decide), _, _, rfl, rfl, ⟨by decide, by decide⟩, .inl ⟨_, rfl, _, rfl, _, _, rfl, rfl, (by show (m : Int) ≠ 0; omega), ?_⟩⟩⟩
      have hn2 := Int.fmod_nonneg_of_pos ((c * c).fmod 2147483563 / 31) (b := (m : Int)) (by omega)
      have hl2 := Int.fmod_lt_of_pos ((c * c).fmod 2147483563 / 31) (b := (m : Int)) (by omega)
      have e : ((c * c).fmod 2147483563 / 31).fmod (m : Int) = ((((c * c).fmod 2147483563 / 31).fmod (m : Int)).toNat : Int) := by omega
      have z := k (((c * c).fmod 2147483563 / 31).fmod (m : Int)).toNat (upd H1 p (.lst [.int a, .int c])) (by omega) ⟨_, _, upd_same, ha, hn, by omega⟩ (fun d o h n => by rw [upd_ne n]; exact e1 _ _ h)
      have ev : vI (((c * c).fmod 2147483563 / 31).fmod (m : Int)).toNat = V.int (((c * c).fmod 2147483563 / 31).fmod (m : Int)) := by show V.int _ = _; rw [← e]
      rw [ev] at z
      exact z
theorem ok_l_pick (T : Txt K mg A) : FnOk P w K mg base CX0 2 A.l_pick A.l_pick_fd ["_law_pot_here", "_law_some"] spPick := by
  refine T.F_l_pick.ok sc_l_pick (fun vs H Q E h => ?_) (fun cdv A' outer s H vs Q E hr h => ?_)
  · obtain ⟨p, a, l, rfl, _⟩ := h
    rfl
  · obtain ⟨p, a, l, rfl, hp, ha, ne, h1, h2, k⟩ := h
    refine ⟨_, (pss_one (ps_ret (show PE _ _ (tOp (rIxL K) _ _) from pe_ix ix_list (pv 1) (pe_call (ok_l_draw T) (hr.mono (by decide)) (by rfl) T.m_l_draw T.F_l_draw.kp T.b_l_draw .nil pass0 (pa_cons (pv 0) (pa_cons (show PE _ _ (tCB (rLenA K) _) from (pe_callB (id := "len") call_len (by rfl) T.n_len (by decide +kernel) (pa_cons (pv 1) pa_nil))) pa_nil))) (fun _ _ => rfl)))), ?_⟩
    refine ⟨_, rfl, _, rfl, _, rfl, .ref a, _, rfl, .inl ⟨_, Evl.sq_of ha, rfl⟩, p, l.length, (by rw [List.length_map]; rfl), hp, h1, h2, fun d H' hd hp' e => ?_⟩
    have ha' := e _ _ ha ne
    refine ⟨a, _, _, vI l[d], rfl, rfl, Evl.sq_of ha', at_of rfl (by rw [List.getElem?_map, List.getElem?_eq_getElem hd]; rfl), k l[d] H' (List.getElem_mem hd) hp' e⟩
theorem ok_l_beside (T : Txt K mg A) : FnOk P w K mg base CX0 1 A.l_beside A.l_beside_fd ["_law_lanes", "_law_place"] spBeside := by
  refine T.F_l_beside.ok sc_l_beside (fun vs H Q E h => ?_) (fun cdv A' outer s H vs Q E hr h => ?_)
  · obtain ⟨L, a, i, rfl, _⟩ := h
    rfl
  · obtain ⟨L, a, i, rfl, hL, hsm, k⟩ := h
    refine ⟨_, (pss_cons (ps_setLc (i := 2) (own := [("_law_one", 3), ("_law_other", 4)]) rfl sc_l_beside.nd rfl rfl (sw_true rfl rfl rfl (by decide +kernel)) (show PI _ _ _ (iList K _) from pi_list (pv 0)) (blkOk_by (N := n_l_beside) (sc := defScope s_l_beside) (by decide +kernel)) (fun _ _ _ _ _ => (show PG _ _ (gTup K 2 _) from pg_tup rfl (pgs_cons (pg_name (i := 3) sc_l_beside.nd rfl (Or.inl rfl)) (pgs_cons (pg_name (i := 4) sc_l_beside.nd rfl (Or.inl rfl)) pgs_nil)))) (fun _ _ _ _ _ => (pts_one (pt_cmpR op_eq (pv 3) (pv 1) (nomark _)))) (fun _ _ _ _ _ => (pv 4))) (pss_one (ps_ret (show PE _ _ (tCB (rSortedI K) _) from (pe_callB (id := "sorted") cr_sortedI (by rfl) T.n_sorted (by decide +kernel) (pa_cons (pe_op op_cat (pv 2) (pe_lc (own := [("_law_one", 3), ("_law_other", 4)]) rfl sc_l_beside.nd (show PI _ _ _ (iList K _) from pi_list (pv 0)) (blkOk_by (N := n_l_beside) (sc := defScope s_l_beside) (by decide +kernel)) (fun _ _ _ _ _ => (show PG _ _ (gTup K 2 _) from pg_tup rfl (pgs_cons (pg_name (i := 3) sc_l_beside.nd rfl (Or.inl rfl)) (pgs_cons (pg_name (i := 4) sc_l_beside.nd rfl (Or.inl rfl)) pgs_nil)))) (fun _ _ _ _ _ => (pts_one (pt_cmpR op_eq (pv 4) (pv 1) (nomark _)))) (fun _ _ _ _ _ => (pv 3)))) pa_nil)))))), ?_⟩
    obtain ⟨ls, ha, hp⟩ := id hL
    have hll : ls.length = L.length := PySem.Paired.length hp
    -- found = [..]
    refine p_asg (lcL (src_list (K := K) (Evl.ev_var rfl) (Evl.sq_of ha)) hp (by omega) (fun q => [some (.ref a), some (vI i), none, some (vI q.1), some (vI q.2)]) (fun _ => rfl) (fun q t H1 Q' _ h k => (by exact go_tup (i := 3) (j := 4) h k)) (fun q => decide (q.1 = i)) (fun q => vI q.2) (fun q H1 _ e => ?_) (fun q H1 _ e _ => Evl.ev_var rfl)) fun v H1 e1 h => ?_
    · refine Evl.et_is (Evl.et_test (Evl.ev_op (Evl.ev_var rfl) (Evl.ev_var rfl) (Evl.rv_eq rfl))) ?_
      by_cases c : q.1 = i
      · rw [c]
        simp
      · rw [decide_eq_false c, decide_eq_false (fun z => c (by injection z with z; omega))]
    obtain ⟨o, rfl, ho, hout⟩ := h
    refine p_ret (P := NewL (vIs (adj L i))) (evp_cb1 (P := fun v _ Hb => ∃ p, v = .ref p ∧ Hb p = some (.lst (vIs (nb L i)))) ?_ (fun v Ha Hb _ eab h Q' q => ?_)) fun v H2 e2 h => ?_
    · intro H2 e2 Q' q
      refine ⟨_, rfl, (lcL (src_list (K := K) (Evl.ev_var rfl) (Evl.sq_of ((e1.trans e2) _ _ ha))) (paired_imp (fun _ _ z => z.ex (e1.trans e2)) hp) (by omega) (fun q => [some (.ref a), some (vI i), some (.ref o), some (vI q.1), some (vI q.2)]) (fun _ => rfl) (fun q t H1 Q' _ h k => (by exact go_tup (i := 3) (j := 4) h k)) (fun q => decide (q.2 = i)) (fun q => vI q.1) (fun q H1 _ e => ?_) (fun q H1 _ e _ => Evl.ev_var rfl)).run fun v H3 e3 h => ?_⟩
      · refine Evl.et_is (Evl.et_test (Evl.ev_op (Evl.ev_var rfl) (Evl.ev_var rfl) (Evl.rv_eq rfl))) ?_
        by_cases c : q.2 = i
        · rw [c]
          simp
        · rw [decide_eq_false c, decide_eq_false (fun z => c (by injection z with z; omega))]
      · obtain ⟨u, rfl, hu, hin⟩ := h
        have l1 : ((L.filter fun q => decide (q.1 = i)).map fun q => vI q.2).length ≤ L.length := by rw [List.length_map]; exact List.length_filter_le _ _
        have l2 : ((L.filter fun q => decide (q.2 = i)).map fun q => vI q.1).length ≤ L.length := by rw [List.length_map]; exact List.length_filter_le _ _
        refine ⟨o, u, _, _, rfl, rfl, (e2.trans e3) _ _ hout, hin, szL (by omega), fun p hp => q _ _ (e3.trans (Ex.new hp)) ⟨p, rfl, ?_⟩⟩
        rw [upd_same]
        unfold nb out inn vIs
        rw [List.map_append, List.map_map, List.map_map]
        rfl
    · obtain ⟨p, rfl, hp⟩ := h
      refine ⟨p, (nb L i).map fun (n : Nat) => (n : Int), rfl, ?_, fun ns' c perm srt hc => ?_⟩
      · rw [← vIs_int]
        exact Evl.sq_of hp
      · have := int_sorted perm srt
        subst this
        rw [← vIs_int]
        exact q _ _ (Ex.new hc) ⟨c, rfl, Evl.fresh_back eab hc, upd_same⟩
    · obtain ⟨p, rfl, hp, h⟩ := h
      exact k p H2 (e1.trans e2) (Evl.fresh_back e1 hp) h
theorem ok_l_yards (T : Txt K mg A) : FnOk P w K mg base CX0 2 A.l_yards A.l_yards_fd ["_law_lanes"] spYardsOf := by
  refine T.F_l_yards.ok sc_l_yards (fun vs H Q E h => ?_) (fun cdv A' outer s H vs Q E hr h => ?_)
  · obtain ⟨L, a, rfl, _⟩ := h
    rfl
  · obtain ⟨L, a, rfl, hL, hsm, k⟩ := h
    refine ⟨_, (pss_one (ps_ret (pe_lc (own := [("_law_place", 1)]) rfl sc_l_yards.nd (pi_range1 (by rfl) T.n_range (pa_cons (pe_op op_add (show PE _ _ (tCB (rLenA K) _) from (pe_callB (id := "len") call_len (by rfl) T.n_len (by decide +kernel) (pa_cons (pv 0) pa_nil))) pe_int) pa_nil)) (blkOk_by (N := n_l_yards) (sc := defScope s_l_yards) (by decide +kernel)) (fun _ _ _ _ _ => (pg_name (i := 1) sc_l_yards.nd rfl (Or.inl rfl))) (fun _ _ _ _ _ => (pts_one (pt_cmpR op_gt (show PE _ _ (tCB (rLenA K) _) from (pe_callB (id := "len") call_len (by rfl) T.n_len (by decide +kernel) (pa_cons (pe_call (ok_l_beside T) (hr.mono (by decide)) (by rfl) T.m_l_beside T.F_l_beside.kp T.b_l_beside .nil pass0 (pa_cons (pv 0) (pa_cons (pv 1) pa_nil))) pa_nil))) pe_int (nomark _)))) (fun _ _ _ _ _ => (pv 1))))), ?_⟩
    obtain ⟨ls, ha, hp⟩ := id hL
    have hll : ls.length = L.length := PySem.Paired.length hp
    refine p_ret (P := NewL (vIs (yardsL L))) (lcV (n := L.length + 1) (src_rng1 (n := L.length + 1) ?_ (by omega)) (by omega) (fun _ x => [some (.ref a), some x]) (fun _ _ => rfl) (fun _ _ _ _ _ _ _ q => q) (fun i => decide (1 < (adj L i).length)) (fun i => vI i) (fun i x H1 e1 hi hx => ?_) (fun i x H1 e1 hi hx _ => ?_)) fun v H1 e1 h => ?_
    · intro H1 e1 Q' q
      refine ⟨_, rfl, _, ls.length, rfl, .inl ⟨_, Evl.sq_of (e1 _ _ ha), rfl⟩, _, _, rfl, rfl, ?_⟩
      have z := q H1 (Ex.refl _)
      rw [hll]
      exact z
    · cases hx
      have hl : Ev (tCB (rLenA K) (tCons (tCall spBeside [] E0 (tCons (tVar 0) (tCons (tVar 1) tNil))) tNil)) [some (.ref a), some (vI i)] H1 (vI (adj L i).length) := by
        have := ev_lenP (K := K) (xs := vIs (adj L i)) (evp_callA (σ := [some (.ref a), some (vI i)]) (H := H1) (sp := spBeside) (E := E0) (dvs := []) (vs := [.ref a, vI i]) (ta := tCons (tVar 0) (tCons (tVar 1) tNil)) (P := fun v _ Hb => ∃ p, v = .ref p ∧ Hb p = some (.lst (vIs (adj L i)))) (Evl.ea_cons (Evl.ev_var rfl) (Evl.ea_cons (Evl.ev_var rfl) Evl.ea_nil)) (fun H2 e2 Q q => ⟨L, a, i, rfl, hL.ex (e1.trans e2), hsm, fun p H3 e3 _ hp => q _ H3 e3 ⟨p, rfl, hp⟩⟩) (fun _ _ _ _ _ _ _ h => h))
        rw [List.length_map] at this
        exact this
      refine Evl.et_is (Evl.et_test (Evl.ev_op hl Evl.ev_c rv_I0P)) ?_
      by_cases c : 1 < (adj L i).length
      · rw [decide_eq_true c, decide_eq_true (by omega)]
      · rw [decide_eq_false c, decide_eq_false (by omega)]
    · cases hx
      exact Evl.ev_var rfl
    · obtain ⟨p, rfl, hp, h⟩ := h
      exact k p H1 e1 hp h
end
end K15
set_option Elab.async false
set_option linter.all false
set_option maxRecDepth 100000
set_option maxHeartbeats 4000000
/-! the state of a country that is being drawn -/
namespace Pr
open PySem PySem.Spec PyProof.Rows L2 TM
open Evl (Ex)
structure St1 (H0 H : Hp) (p tt ll : Addr) (rs : List Addr) (lsv : List V) (L : Lanes) (ln : Nat → Nat) : Prop where
  pot : PotAt H p
  ex : ExB p H0 H
  ht : H tt = some (.lst (rs.map V.ref))
  hl : H ll = some (.lst lsv)
  pr : Paired (PairAt H) lsv L
  row : ∀ (j : Nat) (r : Addr), rs[j]? = some r → ∃ xs, H r = some (.lst xs) ∧ xs.length = ln j
  nd : rs.Nodup
  ft : H0 tt = none
  fl : H0 ll = none
  fr : ∀ r ∈ rs, H0 r = none
  ntp : tt ≠ p
  nlp : ll ≠ p
  ntl : tt ≠ ll
  nr : ∀ r ∈ rs, r ≠ p ∧ r ≠ tt ∧ r ≠ ll
section
variable {H0 H H' : Hp} {p tt ll : Addr} {rs : List Addr} {lsv : List V} {L : Lanes} {ln : Nat → Nat}
theorem PairAt.exB {v : V} {q : Nat × Nat} (hp : PotAt H p) (e : ExB p H H') (h : PairAt H v q) : PairAt H' v q := by
  obtain ⟨t, r, k⟩ := h
  exact ⟨t, r, e _ _ k (hp.ne k (fun _ _ z => nomatch z))⟩
theorem St1.byPot (S : St1 H0 H p tt ll rs lsv L ln) (e : ExB p H H') (hp : PotAt H' p) : St1 H0 H' p tt ll rs lsv L ln where
  pot := hp
  ex := S.ex.trans e
  ht := e _ _ S.ht S.ntp
  hl := e _ _ S.hl S.nlp
  pr := paired_imp (fun _ _ z => z.exB S.pot e) S.pr
  row := fun j r h => by
    obtain ⟨xs, a, b⟩ := S.row j r h
    exact ⟨xs, e _ _ a (S.nr r (List.mem_of_getElem? h)).1, b⟩
  nd := S.nd
  ft := S.ft
  fl := S.fl
  fr := S.fr
  ntp := S.ntp
  nlp := S.nlp
  ntl := S.ntl
  nr := S.nr
theorem St1.byEx (S : St1 H0 H p tt ll rs lsv L ln) (e : Ex H H') : St1 H0 H' p tt ll rs lsv L ln := S.byPot (.of e) (S.pot.ex e)
theorem St1.free (S : St1 H0 H p tt ll rs lsv L ln) {q : Addr} (h : H q = none) : H0 q = none ∧ q ≠ p := by
  have n : q ≠ p := fun e => by
    obtain ⟨a, b, hp, _⟩ := S.pot
    rw [e, hp] at h
    cases h
  exact ⟨S.ex.free h n, n⟩
/-- an object that H0 does not know is stored anew -/
theorem ExB.mut {q : Addr} {o : HO} (e : ExB p H0 H) (h : H0 q = none) : ExB p H0 (upd H q o) := fun b u hb n => by
  rw [upd_ne (ne_of_none hb h)]
  exact e b u hb n
theorem PotAt.put {q : Addr} {o : HO} (h : PotAt H p) (n : q ≠ p) : PotAt (upd H q o) p := by
  obtain ⟨a, b, h, r⟩ := h
  exact ⟨a, b, by rw [upd_ne n.symm]; exact h, r⟩
theorem PairAt.put {v : V} {q : Nat × Nat} {x : Addr} {xs ys : List V} (hx : H x = some (.lst xs)) (h : PairAt H v q) : PairAt (upd H x (.lst ys)) v q := by
  obtain ⟨t, r, k⟩ := h
  exact ⟨t, r, by rw [upd_ne (ne_of k hx (fun z => nomatch z))]; exact k⟩
/-- one row more -/
theorem St1.push (S : St1 H0 H p tt ll rs lsv L ln) {r : Addr} {xs : List V} (hr : H r = none) : St1 H0 (upd (upd H r (.lst xs)) tt (.lst (rs.map V.ref ++ [.ref r]))) p tt ll (rs ++ [r]) lsv L (fun j => if j = rs.length then xs.length else ln j) := by
  obtain ⟨h0, np⟩ := S.free hr
  have nt : r ≠ tt := fun e => by rw [e, S.ht] at hr; cases hr
  have nl : r ≠ ll := fun e => by rw [e, S.hl] at hr; cases hr
  have S1 := S.byEx (H' := upd H r (.lst xs)) (Ex.new hr)
  have nrs : r ∉ rs := fun m => by
    obtain ⟨j, hj⟩ := List.getElem?_of_mem m
    obtain ⟨ys, h, _⟩ := S.row j r hj
    rw [hr] at h
    cases h
  refine ⟨S1.pot.put S.ntp, S1.ex.mut S.ft, by rw [upd_same, List.map_append]; rfl, by rw [upd_ne S.ntl.symm]; exact S1.hl, paired_imp (fun _ _ z => z.put S1.ht) S1.pr, fun j q h => ?_, ?_, S.ft, S.fl, fun q hq => ?_, S.ntp, S.nlp, S.ntl, fun q hq => ?_⟩
  · by_cases hj : j < rs.length
    · rw [List.getElem?_append_left hj] at h
      obtain ⟨ys, a, b⟩ := S1.row j q h
      refine ⟨ys, by rw [upd_ne (S.nr q (List.mem_of_getElem? h)).2.1]; exact a, ?_⟩
      rw [if_neg (by omega)]
      exact b
    · rw [List.getElem?_append_right (by omega)] at h
      have e0 : j - rs.length = 0 := by
        have := (List.getElem?_eq_some_iff.mp h).1
        simp at this
        omega
      rw [e0] at h
      have : r = q := Option.some.inj h
      subst this
      exact ⟨xs, by rw [upd_ne nt, upd_same], by rw [if_pos (by omega)]⟩
  · exact List.nodup_append.mpr ⟨S.nd, by simp, fun x hx y hy e => by
      have : y = r := by simpa using hy
      subst this
      subst e
      exact nrs hx⟩
  · rcases List.mem_append.mp hq with hq | hq
    · exact S.fr q hq
    · have : q = r := by simpa using hq
      subst this
      exact h0
  · rcases List.mem_append.mp hq with hq | hq
    · exact S.nr q hq
    · have : q = r := by simpa using hq
      subst this
      exact ⟨np, nt, nl⟩
/-- a row grows -/
theorem St1.grow (S : St1 H0 H p tt ll rs lsv L ln) {o : Nat} {r : Addr} {xs : List V} {v : V} (h : rs[o]? = some r) (hx : H r = some (.lst xs)) : St1 H0 (upd H r (.lst (xs ++ [v]))) p tt ll rs lsv L (fun j => ln j + if o = j then 1 else 0) := by
  obtain ⟨np, nt, nl⟩ := S.nr r (List.mem_of_getElem? h)
  refine ⟨S.pot.put np, S.ex.mut (S.fr r (List.mem_of_getElem? h)), by rw [upd_ne nt.symm]; exact S.ht, by rw [upd_ne nl.symm]; exact S.hl, paired_imp (fun _ _ z => z.put hx) S.pr, fun j q hq => ?_, S.nd, S.ft, S.fl, S.fr, S.ntp, S.nlp, S.ntl, S.nr⟩
  obtain ⟨ys, a, b⟩ := S.row j q hq
  by_cases e : o = j
  · subst e
    have : r = q := Option.some.inj (h.symm.trans hq)
    subst this
    rw [hx] at a
    cases a
    exact ⟨xs ++ [v], upd_same, by rw [if_pos rfl, List.length_append, b]; rfl⟩
  · have : q ≠ r := fun z => e (TM.nodup_ix S.nd h (z ▸ hq))
    exact ⟨ys, by rw [upd_ne this]; exact a, by rw [if_neg e, b]; rfl⟩
/-- one lane more -/
theorem St1.lane (S : St1 H0 H p tt ll rs lsv L ln) {t : Addr} {a b : Nat} (ht : H t = none) : St1 H0 (upd (upd H t (.tup [vI a, vI b])) ll (.lst (lsv ++ [.ref t]))) p tt ll rs (lsv ++ [.ref t]) (L ++ [(a, b)]) ln := by
  have S1 := S.byEx (H' := upd H t (.tup [vI a, vI b])) (Ex.new ht)
  have ntl : t ≠ ll := fun e => by rw [e, S.hl] at ht; cases ht
  refine ⟨S1.pot.put S.nlp, S1.ex.mut S.fl, by rw [upd_ne S.ntl]; exact S1.ht, upd_same, Paired.snoc (paired_imp (fun _ _ z => z.put S1.hl) S1.pr) ⟨t, rfl, by rw [upd_ne ntl, upd_same]⟩, fun j q hq => ?_, S.nd, S.ft, S.fl, S.fr, S.ntp, S.nlp, S.ntl, S.nr⟩
  obtain ⟨ys, a, b⟩ := S1.row j q hq
  exact ⟨ys, by rw [upd_ne (S.nr q (List.mem_of_getElem? hq)).2.2]; exact a, b⟩
theorem St1.lens (S : St1 H0 H p tt ll rs lsv L ln) {ln' : Nat → Nat} (e : ∀ j, j < rs.length → ln j = ln' j) : St1 H0 H p tt ll rs lsv L ln' :=
  have row' : ∀ (j : Nat) (r : Addr), rs[j]? = some r → ∃ xs, H r = some (.lst xs) ∧ xs.length = ln' j := fun j r h => by
    obtain ⟨xs, a, b⟩ := S.row j r h
    exact ⟨xs, a, by rw [b]; exact e j (List.getElem?_eq_some_iff.mp h).1⟩
  { S with row := row' }
/-- what stays of it: the lanes -/
structure St2 (H0 H : Hp) (p ll lf pl : Addr) (lsv : List V) (L : Lanes) (l q : List Nat) : Prop where
  pot : PotAt H p
  ex : ExB p H0 H
  hl : H ll = some (.lst lsv)
  pr : Paired (PairAt H) lsv L
  hf : H lf = some (.lst (vIs l))
  hp : H pl = some (.lst (vIs q))
  fl : H0 ll = none
  ff : H0 lf = none
  fp : H0 pl = none
  nlp : ll ≠ p
  nfp : lf ≠ p
  npp : pl ≠ p
  nlf : ll ≠ lf
  nlq : ll ≠ pl
  nfq : lf ≠ pl
theorem St2.byPot {lf pl : Addr} {l q : List Nat} (S : St2 H0 H p ll lf pl lsv L l q) (e : ExB p H H') (hp : PotAt H' p) : St2 H0 H' p ll lf pl lsv L l q :=
  { S with pot := hp, ex := S.ex.trans e, hl := e _ _ S.hl S.nlp, pr := paired_imp (fun _ _ z => z.exB S.pot e) S.pr, hf := e _ _ S.hf S.nfp, hp := e _ _ S.hp S.npp }
theorem St2.byEx {lf pl : Addr} {l q : List Nat} (S : St2 H0 H p ll lf pl lsv L l q) (e : Ex H H') : St2 H0 H' p ll lf pl lsv L l q := S.byPot (.of e) (S.pot.ex e)
theorem St2.pop {lf pl : Addr} {l l' q : List Nat} (S : St2 H0 H p ll lf pl lsv L l q) : St2 H0 (upd H lf (.lst (vIs l'))) p ll lf pl lsv L l' q :=
  { S with pot := S.pot.put S.nfp, ex := S.ex.mut S.ff, hl := by rw [upd_ne S.nlf]; exact S.hl, pr := paired_imp (fun _ _ z => z.put S.hf) S.pr, hf := upd_same, hp := by rw [upd_ne S.nfq.symm]; exact S.hp }
theorem St2.put {lf pl : Addr} {l q q' : List Nat} (S : St2 H0 H p ll lf pl lsv L l q) : St2 H0 (upd H pl (.lst (vIs q'))) p ll lf pl lsv L l q' :=
  { S with pot := S.pot.put S.npp, ex := S.ex.mut S.fp, hl := by rw [upd_ne S.nlq]; exact S.hl, pr := paired_imp (fun _ _ z => z.put S.hp) S.pr, hp := upd_same, hf := by rw [upd_ne S.nfq]; exact S.hf }
end
def spDrawn : Sp := fun vs H Q _ => ∃ p m, vs = [.ref p, vI m] ∧ PotAt H p ∧ 1 ≤ m ∧ m ≤ 7 ∧ ∀ a L vt H', Good vt L → LanesAt H' a L → H a = none → ExB p H H' → PotAt H' p → Q (.ref a) H'
end Pr
set_option Elab.async false
set_option linter.all false
set_option maxRecDepth 100000
set_option maxHeartbeats 4000000
/-! lists of places as data: compared, written -/
namespace Pr
open PySem PySem.Spec PyProof.Rows L2 TM
open Evl (Ex Ev EvT)
def dNs (l : List Nat) : List PyData := l.map fun (n : Nat) => .int (n : Int)
def dN (l : List Nat) : PyData := .list (dNs l)
theorem dp_all {K : PySem.W.Frag} {H : Hp} : ∀ l : List Nat, DpAll K H (vIs l) (dNs l)
  | [] => .nil
  | a :: l => .cons (.int a) (dp_all l)
theorem dp_N {K : PySem.W.Frag} {H : Hp} {a : Addr} {l : List Nat} (h : SqL K H a (vIs l)) : Dp K H (.ref a) (dN l) := .lst h (dp_all l)
theorem depth_Ns : ∀ l : List Nat, PyData.depthAll (dNs l) = 0
  | [] => by simp [dNs, PyData.depthAll]
  | a :: l => by
    have ih := depth_Ns l
    unfold dNs at ih ⊢
    simp [PyData.depthAll, PyData.depth, ih]
theorem depth_N (l : List Nat) : (dN l).depth = 1 := by
  unfold dN
  simp [PyData.depth, depth_Ns]
theorem canLay_Ns : ∀ l : List Nat, PyData.canLayAll0 (dNs l) = true
  | [] => by simp [dNs, PyData.canLayAll0]
  | a :: l => by
    have ih := canLay_Ns l
    unfold dNs at ih ⊢
    simp [PyData.canLayAll0, PyData.canLay0, ih]
theorem shaped_N (l : List Nat) : SeqAt.shaped (dN l) = true := by
  unfold SeqAt.shaped
  rw [depth_N]
  unfold dN
  simp [PyData.canLay0, canLay_Ns]
theorem eqv_Ns : ∀ l m : List Nat, PyData.eqvAll (dNs l) (dNs m) = decide (l = m)
  | [], [] => by simp [dNs, PyData.eqvAll]
  | [], b :: m => by simp [dNs, PyData.eqvAll]
  | a :: l, [] => by simp [dNs, PyData.eqvAll]
  | a :: l, b :: m => by
    have ih := eqv_Ns l m
    unfold dNs at ih ⊢
    simp only [List.map_cons, PyData.eqvAll, PyData.eqv, ih]
    by_cases h : a = b
    · subst h
      simp
    · have : ((a : Int) == (b : Int)) = false := by
        rw [beq_eq_false_iff_ne]
        omega
      simp [this, h]
theorem eqv_N (l m : List Nat) : PyData.eqv (dN l) (dN m) = decide (l = m) := by
  unfold dN
  simp only [PyData.eqv]
  exact eqv_Ns l m
theorem showable_Ns : ∀ l : List Nat, (∀ x ∈ l, x < 1024) → PyData.showableAll (dNs l) = true
  | [], _ => by simp [dNs, PyData.showableAll]
  | a :: l, h => by
    have ih := showable_Ns l fun x hx => h x (List.mem_cons_of_mem _ hx)
    have ha := h a List.mem_cons_self
    unfold dNs at ih ⊢
    have : (a : Int).natAbs.log2 < 1920 := by
      have h1 : (a : Int).natAbs = a := Int.natAbs_natCast a
      rw [h1]
      by_cases z : a = 0
      · subst z; decide
      · have := (Nat.log2_lt z (k := 10)).mpr (by omega)
        omega
    simp only [List.map_cons, PyData.showableAll, PyData.showable, ih, this, decide_true, Bool.and_self]
theorem hasDict_Ns : ∀ l : List Nat, PyData.hasDictAll (dNs l) = false
  | [] => by simp [dNs, PyData.hasDictAll]
  | a :: l => by
    have ih := hasDict_Ns l
    unfold dNs at ih ⊢
    simp [PyData.hasDictAll, PyData.hasDict, ih]
theorem weight_Ns : ∀ l : List Nat, (∀ x ∈ l, x < 1024) → PyData.weightAll (dNs l) ≤ 11 * l.length
  | [], _ => by simp [dNs, PyData.weightAll]
  | a :: l, h => by
    have ih := weight_Ns l fun x hx => h x (List.mem_cons_of_mem _ hx)
    have ha := h a List.mem_cons_self
    unfold dNs at ih ⊢
    simp only [List.map_cons, PyData.weightAll, PyData.weight, List.length_cons]
    have : (if ((a : Int) == 0) = true then 0 else (a : Int).natAbs.log2 + 1) ≤ 10 := by
      split
      · omega
      · rename_i z
        have z' : a ≠ 0 := fun e => z (by rw [e]; rfl)
        rw [Int.natAbs_natCast]
        have := (Nat.log2_lt z' (k := 10)).mpr (by omega)
        omega
    omega
def smallShow : ∀ n : Nat, n < 1024 → (PyData.shown (.int (n : Int))).length ≤ 8 := by decide +kernel
theorem leaves_Ns : ∀ l : List Nat, (∀ x ∈ l, x < 1024) → PyData.leavesShortAll 8 (dNs l) = true
  | [], _ => by simp [dNs, PyData.leavesShortAll]
  | a :: l, h => by
    have ih := leaves_Ns l fun x hx => h x (List.mem_cons_of_mem _ hx)
    have ha := smallShow a (h a List.mem_cons_self)
    unfold dNs at ih ⊢
    simp only [List.map_cons, PyData.leavesShortAll, PyData.leavesShort, ih, ha, decide_true, Bool.and_self]
/-- a list of small places is written -/
theorem repr_N {K : PySem.W.Frag} {H : Hp} {a : Addr} {l : List Nat} {Q : VK} (h : SqL K H a (vIs l)) (hs : ∀ x ∈ l, x < 1024) (hl : l.length ≤ 1001) (q : Q (.str (dN l).shown) H) : G8.rRepr K [.ref a] H Q := by
  refine ⟨a, dN l, rfl, dp_N h, ?_, ?_, by rw [depth_N]; decide, ?_, q⟩
  · unfold dN
    simp only [PyData.showable]
    exact showable_Ns l hs
  · unfold dN
    simp only [PyData.hasDict]
    exact hasDict_Ns l
  · refine PyData.shown_fits (B := 8) (by decide) (by decide) ?_ ?_
    · unfold dN
      simp only [PyData.leavesShort]
      exact leaves_Ns l hs
    · have := weight_Ns l hs
      unfold dN
      simp only [PyData.weight]
      omega
open Ep in
/-- new pairs, one a lane -/
theorem lcT {wi : TI} {g : TG} {te : TE} {vs : List Nat} {σ : L2.St} {H : Hp} {ls : List V} {L : Lanes} (s : Src wi σ H ls.length (fun i v => ls[i]? = some v)) (hp : Paired (PairAt H) ls L) (hn : L.length ≤ 50000) (st : Nat × Nat → L2.St) (hw : ∀ q, wipe (st q) vs = wipe σ vs)
    (hg : ∀ q t H1 Q, Ex H H1 → H1 t = some (.tup [vI q.1, vI q.2]) → Q (st q) H1 → g (.ref t) (wipe σ vs) H1 Q) (F : Nat × Nat → Nat × Nat)
    (he : ∀ q H1, q ∈ L → Ex H H1 → EvP te (st q) H1 (fun v Ha Hb => ∃ t, v = .ref t ∧ Ha t = none ∧ Hb t = some (.tup [vI (F q).1, vI (F q).2]))) :
    EvP (tLc wi g tYes te vs) σ H (fun v Ha Hb => ∃ p, v = .ref p ∧ Ha p = none ∧ LanesAt Hb p (L.map F)) := by
  have hll : ls.length = L.length := PySem.Paired.length hp
  have at_ : ∀ {i : Nat} {x : V}, ls[i]? = some x → ∃ t, x = .ref t ∧ H t = some (.tup [vI (L.getD i (0, 0)).1, vI (L.getD i (0, 0)).2]) ∧ L[i]? = some (L.getD i (0, 0)) := fun {i x} hx => by
    obtain ⟨q, hq, t, r, k⟩ := paired_ix hp hx
    have : L.getD i (0, 0) = q := by rw [List.getD_eq_getElem?_getD, hq]; rfl
    exact ⟨t, r, this ▸ k, this ▸ hq⟩
  refine EvP.imp (lcI s (by omega) (fun i _ => st (L.getD i (0, 0))) (fun _ _ => hw _) (fun D i ys H' => Paired (fun v q => ∃ t, t ≠ D ∧ v = .ref t ∧ H' t = some (.tup [vI q.1, vI q.2])) ys ((L.take i).map F)) (fun i x H1 Q e _ hx q => ?_) (fun _ => true) (fun _ _ _ _ _ _ => fun H1 e Q q => q H1 (Ex.refl _))
    (fun i v Ha Hb => ∃ q t, L[i]? = some q ∧ v = .ref t ∧ Ha t = none ∧ Hb t = some (.tup [vI (F q).1, vI (F q).2])) (fun i x Ha ea hi hx _ => ?_) (fun D Ha _ _ => .nil) (fun D i ys Ha Hb e h => ?_) (fun D i ys Ha xs _ h => ?_) (fun D i ys v Ha Hb _ eab hD hi _ h hq xs => ?_) (fun _ _ _ _ _ _ h => nomatch h)) (fun v Ha Hb _ _ h => ?_)
  · obtain ⟨t, rfl, k, _⟩ := at_ hx
    exact hg _ t H1 Q e (e _ _ k) q
  · obtain ⟨t, rfl, k, m⟩ := at_ hx
    refine (he _ Ha (List.mem_of_getElem? m) ea).imp fun v H1 H2 _ _ h => ?_
    obtain ⟨t', a, b, c⟩ := h
    exact ⟨_, t', m, a, b, c⟩
  · exact paired_imp (fun v q ⟨t, n, r, h⟩ => ⟨t, n, r, e _ _ h⟩) h
  · exact paired_imp (fun v q ⟨t, n, r, h⟩ => ⟨t, n, r, by rw [upd_ne n]; exact h⟩) h
  · obtain ⟨q, t, hq1, rfl, ht1, ht2⟩ := hq
    have nt : t ≠ D := fun z => by rw [z, hD] at ht1; cases ht1
    rw [take_more hq1, List.map_append]
    exact Paired.snoc (paired_imp (fun v q ⟨t', n, r, h⟩ => ⟨t', n, r, by rw [upd_ne n]; exact eab _ _ h⟩) h) ⟨t, nt, rfl, by rw [upd_ne nt]; exact ht2⟩
  · obtain ⟨D, ys, rfl, hD0, hD, _, h⟩ := h
    rw [hll, List.take_length] at h
    exact ⟨D, rfl, hD0, ys, hD, paired_imp (fun v q ⟨t, _, r, h⟩ => ⟨t, r, h⟩) h⟩
theorem seqIx {d n : Nat} (h : d < n) : seqIndex? (d : Int) n = some d := by
  unfold seqIndex?
  have h1 : ¬ ((d : Int) < 0) := by omega
  have h2 : (0 : Int) ≤ (d : Int) := by omega
  have h3 : (d : Int) < (n : Int) := by omega
  simp [h1, h2, h3, h]
theorem rgV_N (n : Nat) : rgV 0 (n : Int) = vIs (List.range n) := by
  unfold rgV
  have : ((n : Int) - 0).toNat = n := by omega
  rw [this]
  refine List.map_congr_left fun i _ => ?_
  show V.int (0 + (i : Int)) = V.int (i : Int)
  rw [Int.zero_add]
theorem erase_perm : ∀ {l : List Nat} {d : Nat} {x : Nat}, l[d]? = some x → l.Perm (x :: l.eraseIdx d)
  | [], d, x, h => by simp at h
  | a :: l, 0, x, h => by
    have : a = x := Option.some.inj h
    subst this
    exact List.Perm.refl _
  | a :: l, d + 1, x, h => by
    have ih := erase_perm (l := l) (d := d) (x := x) (by simpa using h)
    exact (ih.cons a).trans (List.Perm.swap x a _)
theorem erase_vIs : ∀ (l : List Nat) (d : Nat), (vIs l).eraseIdx d = vIs (l.eraseIdx d)
  | [], d => rfl
  | a :: l, 0 => rfl
  | a :: l, d + 1 => by
    show vI a :: (vIs l).eraseIdx d = vI a :: vIs (l.eraseIdx d)
    rw [erase_vIs l d]
end Pr

set_option Elab.async false
set_option linter.all false
set_option maxRecDepth 100000
set_option maxHeartbeats 4000000
namespace K15
open PySem PySem.Spec PyProof.Rows L2 TM Pr Ep
open Evl (Ex Ev EvT EvA EvL)
section
variable {P : Program} {w : World} {K : PySem.W.Frag} {mg : Str → Option Value} {base : Heap} {A : Adr}
theorem ok_l_drawn (T : Txt K mg A) : FnOk P w K mg base CX0 3 A.l_drawn A.l_drawn_fd ["_law_pot_here", "_law_most"] spDrawn := by
  refine T.F_l_drawn.ok sc_l_drawn (fun vs H Q E h => ?_) (fun cdv A' outer s H vs Q E hr h => ?_)
  · obtain ⟨p, m, rfl, _⟩ := h
    rfl
  · obtain ⟨p, m, rfl, hp, hm1, hm7, k⟩ := h
    refine ⟨_, (pss_cons (ps_asg (pe_tup (pa_cons (pe_lst (pa_cons (pe_lst pa_nil) pa_nil)) (pa_cons (pe_lst pa_nil) pa_nil))) (show PG _ _ (gTup K 2 _) from pg_tup rfl (pgs_cons (pg_name (i := 2) sc_l_drawn.nd rfl (Or.inr rfl)) (pgs_cons (pg_name (i := 3) sc_l_drawn.nd rfl (Or.inl rfl)) pgs_nil)))) (pss_cons (ps_for PassesOwn.never rfl (pi_range2 (by rfl) T.n_range (pa_cons pe_int (pa_cons (pe_op op_add pe_int (pe_call (ok_l_draw T) (hr.mono (by decide)) (by rfl) T.m_l_draw T.F_l_draw.kp T.b_l_draw .nil pass0 (pa_cons (pv 0) (pa_cons (pv 1) pa_nil)))) pa_nil))) (pg_name (i := 4) sc_l_drawn.nd rfl (Or.inl rfl)) (pss_cons (ps_setLc (i := 5) (own := [("_law_at", 13)]) rfl sc_l_drawn.nd rfl rfl (sw_true rfl rfl rfl (by decide +kernel)) (pi_range1 (by rfl) T.n_range (pa_cons (pv 4) pa_nil)) (blkOk_by (N := n_l_drawn) (sc := defScope s_l_drawn) (by decide +kernel)) (fun _ _ _ _ _ => (pg_name (i := 13) sc_l_drawn.nd rfl (Or.inl rfl))) (fun _ _ _ _ _ => (pts_one (pt_cmpR op_lt (show PE _ _ (tCB (rLenA K) _) from (pe_callB (id := "len") call_len (by rfl) T.n_len (by decide +kernel) (pa_cons (show PE _ _ (tOp (rIxL K) _ _) from pe_ix ix_list (pv 2) (pv 13) (fun _ _ => rfl)) pa_nil))) pe_int (nomark _)))) (fun _ _ _ _ _ => (pv 13))) (pss_cons (ps_set (i := 6) sc_l_drawn.nd rfl (Or.inl rfl) (pe_call (ok_l_pick T) (hr.mono (by decide)) (by rfl) T.m_l_pick T.F_l_pick.kp T.b_l_pick .nil pass0 (pa_cons (pv 0) (pa_cons (pv 5) pa_nil)))) (pss_cons (ps_expr (show PE _ _ (tBM K "list" rAppend _ _) from pe_bm PySem.F.plainAttrs_list PySem.F.slot_list_append PySem.F.type_list_append mt_append (pv 2) (pa_cons (pe_lst (pa_cons (pv 6) pa_nil)) pa_nil))) (pss_cons (ps_expr (show PE _ _ (tBM K "list" rAppend _ _) from pe_bm PySem.F.plainAttrs_list PySem.F.slot_list_append PySem.F.type_list_append mt_append (show PE _ _ (tOp (rIxL K) _ _) from pe_ix ix_list (pv 2) (pv 6) (fun _ _ => rfl)) (pa_cons (pv 4) pa_nil))) (pss_one (ps_expr (show PE _ _ (tBM K "list" rAppend _ _) from pe_bm PySem.F.plainAttrs_list PySem.F.slot_list_append PySem.F.type_list_append mt_append (pv 3) (pa_cons (pe_tup (pa_cons (pv 6) (pa_cons (pv 4) pa_nil))) pa_nil))))))))) (pss_cons (ps_par (i := 7) (j := 8) (by rfl) sc_l_drawn.nd rfl rfl (by decide) rfl rfl (pa_cons (show PE _ _ (tCB (rLenA K) _) from (pe_callB (id := "len") call_len (by rfl) T.n_len (by decide +kernel) (pa_cons (pv 2) pa_nil))) (pa_cons (show PE _ _ (tCB (rLenA K) _) from (pe_callB (id := "len") call_len (by rfl) T.n_len (by decide +kernel) (pa_cons (pv 2) pa_nil))) pa_nil)) (by rfl)) (pss_cons (ps_for PassesOwn.never rfl (pi_range1 (by rfl) T.n_range (pa_cons (pv 7) pa_nil)) (pg_name (i := 4) sc_l_drawn.nd rfl (Or.inl rfl)) (pss_cons (ps_set (i := 9) sc_l_drawn.nd rfl (Or.inl rfl) (pe_callB (id := "max") (call_max2 rfl) (by rfl) T.n_max (by decide +kernel) (pa_cons (pe_op op_sub pe_int (show PE _ _ (tCB (rLenA K) _) from (pe_callB (id := "len") call_len (by rfl) T.n_len (by decide +kernel) (pa_cons (show PE _ _ (tOp (rIxL K) _ _) from pe_ix ix_list (pv 2) (pv 4) (fun _ _ => rfl)) pa_nil)))) (pa_cons pe_int pa_nil)))) (pss_cons (ps_set (i := 9) sc_l_drawn.nd rfl (Or.inl rfl) (pe_op op_add (pv 9) (pe_ifExp (PW.pt (pw_and (pt_cmpR op_eq (pe_call (ok_l_draw T) (hr.mono (by decide)) (by rfl) T.m_l_draw T.F_l_draw.kp T.b_l_draw .nil pass0 (pa_cons (pv 0) (pa_cons pe_int pa_nil))) pe_int (nomark _)) (pw_and1 (pt_cmpR op_lt (pe_op op_add (show PE _ _ (tCB (rLenA K) _) from (pe_callB (id := "len") call_len (by rfl) T.n_len (by decide +kernel) (pa_cons (show PE _ _ (tOp (rIxL K) _ _) from pe_ix ix_list (pv 2) (pv 4) (fun _ _ => rfl)) pa_nil))) (pv 9)) pe_int (nomark _))))) pe_int pe_int))) (pss_one (ps_for PassesOwn.never rfl (pi_range1 (by rfl) T.n_range (pa_cons (pv 9) pa_nil)) (pg_name (i := 10) sc_l_drawn.nd rfl (Or.inl rfl)) (pss_cons (ps_expr (show PE _ _ (tBM K "list" rAppend _ _) from pe_bm PySem.F.plainAttrs_list PySem.F.slot_list_append PySem.F.type_list_append mt_append (pv 3) (pa_cons (pe_tup (pa_cons (pv 4) (pa_cons (pv 8) pa_nil))) pa_nil))) (pss_one (ps_set (i := 8) sc_l_drawn.nd rfl (Or.inl rfl) (pe_op op_add (pv 8) pe_int))))))))) (pss_cons (ps_asg (pe_tup (pa_cons (pe_listRg rfl (by rfl) T.n_list (prg_1 (by rfl) T.n_range (pv 8))) (pa_cons (pe_lst pa_nil) pa_nil))) (show PG _ _ (gTup K 2 _) from pg_tup rfl (pgs_cons (pg_name (i := 11) sc_l_drawn.nd rfl (Or.inl rfl)) (pgs_cons (pg_name (i := 12) sc_l_drawn.nd rfl (Or.inr rfl)) pgs_nil)))) (pss_cons (ps_while PassesOwn.never (show PT _ _ (tTest (tOp (rNeD K) _ _)) from pt_cmpR (op_neD hr.units) (pv 11) (pe_lst pa_nil) (nomark _)) (pss_one (ps_expr (show PE _ _ (tBM K "list" rAppend _ _) from pe_bm PySem.F.plainAttrs_list PySem.F.slot_list_append PySem.F.type_list_append mt_append (pv 12) (pa_cons (show PE _ _ (tBM K "list" rPopAt _ _) from pe_bm PySem.F.plainAttrs_list PySem.F.slot_list_pop PySem.F.type_list_pop mt_popAt (pv 11) (pa_cons (pe_call (ok_l_draw T) (hr.mono (by decide)) (by rfl) T.m_l_draw T.F_l_draw.kp T.b_l_draw .nil pass0 (pa_cons (pv 0) (pa_cons (show PE _ _ (tCB (rLenA K) _) from (pe_callB (id := "len") call_len (by rfl) T.n_len (by decide +kernel) (pa_cons (pv 11) pa_nil))) pa_nil))) pa_nil)) pa_nil))))) (pss_one (ps_ret (pe_lc (own := [("_law_one", 14), ("_law_other", 6)]) rfl sc_l_drawn.nd (show PI _ _ _ (iList K _) from pi_list (pv 3)) (blkOk_by (N := n_l_drawn) (sc := defScope s_l_drawn) (by decide +kernel)) (fun _ _ _ _ _ => (show PG _ _ (gTup K 2 _) from pg_tup rfl (pgs_cons (pg_name (i := 14) sc_l_drawn.nd rfl (Or.inl rfl)) (pgs_cons (pg_name (i := 6) sc_l_drawn.nd rfl (Or.inl rfl)) pgs_nil)))) (fun _ _ _ _ _ => pts_nil) (fun _ _ _ _ _ => (pe_tup (pa_cons (show PE _ _ (tOp (rIxL K) _ _) from pe_ix ix_list (pv 12) (pv 14) (fun _ _ => rfl)) (pa_cons (show PE _ _ (tOp (rIxL K) _ _) from pe_ix ix_list (pv 12) (pv 6) (fun _ _ => rfl)) pa_nil))))))))))))), ?_⟩
    -- ties, lanes = [[]], []
    refine ⟨(by show 0 ≤ sizeLine; decide), fun r0 h0 => ⟨(by show 1 ≤ sizeLine; decide), fun tt htt => ⟨(by show 0 ≤ sizeLine; decide), fun ll hll => ⟨(by show 2 ≤ sizeLine; decide), fun tu htu => ⟨tu, _, rfl, Evl.st_of upd_same, rfl, _, _, rfl, _, _, rfl, rfl, ?_⟩⟩⟩⟩⟩
    have hp0 := hp
    obtain ⟨pa, pb, hpp, _⟩ := id hp
    have r0p : r0 ≠ p := (ne_of_none hpp h0).symm
    have ttr : tt ≠ r0 := fun e => by rw [e, upd_same] at htt; cases htt
    rw [upd_ne ttr] at htt
    have ttp : tt ≠ p := (ne_of_none hpp htt).symm
    have llt : ll ≠ tt := fun e => by rw [e, upd_same] at hll; cases hll
    rw [upd_ne llt] at hll
    have llr : ll ≠ r0 := fun e => by rw [e, upd_same] at hll; cases hll
    rw [upd_ne llr] at hll
    have llp : ll ≠ p := (ne_of_none hpp hll).symm
    have S0 : St1 H (upd (upd (upd H r0 (.lst [])) tt (.lst [.ref r0])) ll (.lst [])) p tt ll [r0] [] [] (fun _ => 0) := by
      refine ⟨((hp.put r0p).put ttp).put llp, ((ExB.of (Ex.refl H)).mut h0 |>.mut htt).mut hll, by rw [upd_ne llt.symm, upd_same]; rfl, upd_same, .nil, fun j r h => ?_, by simp, htt, hll, fun r hr => by rw [List.mem_singleton.mp hr]; exact h0, ttp, llp, llt.symm, fun r hr => by rw [List.mem_singleton.mp hr]; exact ⟨r0p, ttr.symm, llr.symm⟩⟩
      have hj : j = 0 := by
        have := (List.getElem?_eq_some_iff.mp h).1
        simp at this
        exact this
      subst hj
      have : r0 = r := Option.some.inj h
      subst this
      exact ⟨[], by rw [upd_ne llr.symm, upd_ne ttr.symm, upd_same], rfl⟩
    have S1 := S0.byEx (H' := upd (upd (upd (upd H r0 (.lst [])) tt (.lst [.ref r0])) ll (.lst [])) tu (.tup [.ref tt, .ref ll])) (Ex.new htu)
    generalize (upd (upd (upd (upd H r0 (.lst [])) tt (.lst [.ref r0])) ll (.lst [])) tu (.tup [.ref tt, .ref ll])) = H1 at S1
    clear S0 htu
    -- for yard in range(1, 1 + draw)
    refine ⟨_, rfl, _, rfl, p, m, rfl, S1.pot, hm1, by omega, fun d H2 hd hp2 e2 => ⟨_, _, rfl, rfl, 1, _, rfl, ⟨by omega, by omega, by omega, by omega⟩, ?_⟩⟩
    have S2 := S1.byPot e2 hp2
    clear S1 e2 hp2
    refine for_range (lo := 1) (n := (1 + (d : Int) - 1).toNat) (fun i σ' H' => ∃ rs lsv L y4 y5 y6, σ' = [some (.ref p), some (vI m), some (.ref tt), some (.ref ll), y4, y5, y6, none, none, none, none, none, none, none, none] ∧ St1 H H' p tt ll rs lsv L (deg L) ∧ rs.length = i + 1 ∧ Drawn (i + 1) L ∧ (∀ j, deg L j ≤ 4) ∧ deg L i ≤ 1)
      ⟨[r0], [], [], none, none, none, rfl, S2.lens (fun j hj => by simp [deg, nb, out, inn]), rfl, Drawn.start, fun j => by simp [deg, nb, out, inn], by simp [deg, nb, out, inn]⟩ (fun i σ' H3 hi h => ?_) (fun σ' H3 h => ?_)
    · obtain ⟨rs, lsv, L, y4, y5, y6, rfl, S, hrs, D, h4, h1⟩ := h
      have hid : i < d := by omega
      have eL := D.len
      have ell : lsv.length = L.length := PySem.Paired.length S.pr
      have ey : V.int (1 + (i : Int)) = vI (i + 1) := by show V.int _ = V.int _; congr 1; omega
      have rowlen : ∀ {σ : L2.St} {H4 : Hp} {j : Nat}, σ[2]? = some (some (.ref tt)) → Ex H3 H4 → ∀ {tk : TE}, Ev tk σ H4 (vI j) → j < i + 1 → Ev (tCB (rLenA K) (tCons (tOp (rIxL K) (tVar 2) tk) tNil)) σ H4 (vI (deg L j)) := fun {σ H4 j} hs e {tk} hk hj => by
        have hl : j < rs.length := by omega
        obtain ⟨xs, hx, hxl⟩ := S.row j rs[j] (List.getElem?_eq_getElem hl)
        have := ev_lenL (K := K) (ta := tOp (rIxL K) (tVar 2) tk) (σ := σ) (H := H4) (Evl.ev_op (Evl.ev_var hs) hk (Evl.rv_ixL (v := .ref rs[j]) (Evl.sq_of (e _ _ S.ht)) (at_of rfl (by rw [List.getElem?_map, List.getElem?_eq_getElem hl]; rfl)))) (Evl.sq_of (e _ _ hx))
        rw [hxl] at this
        exact this
      show tSeq (tAsg (tLc _ _ _ _ _) (gName 5)) _ _ ([some (.ref p), some (vI m), some (.ref tt), some (.ref ll), some (V.int (1 + (i : Int))), y5, y6, none, none, none, none, none, none, none, none]) H3
      rw [ey]
      refine p_asg (lcV (n := i + 1) (src_rng1 (n := i + 1) (Evl.ea_cons (Evl.ev_var rfl) Evl.ea_nil) (by omega)) (by omega) (fun _ x => [some (.ref p), some (vI m), some (.ref tt), some (.ref ll), some (vI (i + 1)), y5, y6, none, none, none, none, none, none, some x, none]) (fun _ _ => rfl) (fun _ _ _ _ _ _ _ q => q) (fun j => decide (deg L j < 4)) (fun j => vI j) (fun j x H4 e4 hj hx => ?_) (fun j x H4 e4 hj hx _ => ?_)) fun v H4 e4 hv => ?_
      · cases hx
        refine Evl.et_is (Evl.et_test (Evl.ev_op (rowlen rfl e4 (Evl.ev_var rfl) hj) Evl.ev_c rv_I0P)) ?_
        by_cases c : deg L j < 4
        · rw [decide_eq_true c, decide_eq_true (by omega)]
        · rw [decide_eq_false c, decide_eq_false (by omega)]
      · cases hx
        exact Evl.ev_var rfl
      obtain ⟨sa, rfl, hsa0, hsa⟩ := hv
      have S4 := S.byEx e4
      have sap : sa ≠ p := fun e => by
        obtain ⟨a, b, hq, _⟩ := S.pot
        rw [e, hq] at hsa0
        cases hsa0
      -- other = pick(pot, some)
      refine ⟨_, rfl, _, rfl, p, sa, _, rfl, S4.pot, hsa, sap, ?_, ?_, fun o H5 ho hp5 e5 => ?_⟩
      · refine List.length_pos_of_mem (List.mem_filter.mpr ⟨List.mem_range.mpr (Nat.lt_succ_self i), ?_⟩)
        exact decide_eq_true (by omega)
      · have := List.length_filter_le (fun j => decide (deg L j < 4)) (List.range (i + 1))
        rw [List.length_range] at this
        omega
      have S5 := S4.byPot e5 hp5
      obtain ⟨ho1, ho2⟩ := List.mem_filter.mp ho
      have ho1 := List.mem_range.mp ho1
      have ho2 : deg L o < 4 := of_decide_eq_true ho2
      -- ties.append([other])
      refine ⟨_, rfl, .inl ⟨rfl, _, .inl (.inl S5.ht)⟩, _, rfl, (by show 1 ≤ sizeLine; decide), fun r hr => ?_⟩
      have ntr : tt ≠ r := ne_of_none S5.ht hr
      refine ⟨tt, _, _, rfl, rfl, by rw [upd_ne ntr]; exact S5.ht, by rw [List.length_map]; exact szN (by omega), ?_⟩
      have S6 := S5.push (xs := [vI o]) hr
      -- ties[other].append(yard)
      have hl6 : o < (rs ++ [r]).length := by rw [List.length_append]; show o < rs.length + 1; omega
      obtain ⟨xs, hx, hxl⟩ := S6.row o (rs ++ [r])[o] (List.getElem?_eq_getElem hl6)
      have hxl4 : xs.length ≤ 4 := by
        rw [hxl]
        split
        · show 1 ≤ 4; decide
        · omega
      refine ⟨_, rfl, _, rfl, tt, _, _, .ref (rs ++ [r])[o], rfl, rfl, Evl.sq_of S6.ht, at_of rfl (by rw [List.getElem?_map, List.getElem?_eq_getElem hl6]; rfl), .inl ⟨rfl, _, .inl (.inl hx)⟩, _, rfl, (rs ++ [r])[o], xs, _, rfl, rfl, hx, szN (by omega), ?_⟩
      have S7 := S6.grow (v := vI (i + 1)) (List.getElem?_eq_getElem hl6) hx
      -- lanes.append((other, yard))
      refine ⟨_, rfl, .inl ⟨rfl, _, .inl (.inl S7.hl)⟩, _, rfl, _, rfl, (by show 2 ≤ sizeLine; decide), fun t ht => ?_⟩
      have nlt : ll ≠ t := ne_of_none S7.hl ht
      refine ⟨ll, _, _, rfl, rfl, by rw [upd_ne nlt]; exact S7.hl, szN (by omega), ?_⟩
      have S8 := S7.lane (a := o) (b := i + 1) ht
      have dl : ∀ j, deg (L ++ [(o, i + 1)]) j = deg L j + ((if o = j then 1 else 0) + (if i + 1 = j then 1 else 0)) := fun j => deg_snoc L o (i + 1) j
      have dz : deg L (i + 1) = 0 := D.zero (Nat.le_refl _)
      refine ⟨rs ++ [r], _, L ++ [(o, i + 1)], _, _, _, rfl, S8.lens (fun j hj => ?_), by rw [List.length_append, hrs]; rfl, D.more ho1, fun j => ?_, ?_⟩
      · rw [dl]
        rw [hrs]
        by_cases c : j = i + 1
        · subst c
          rw [if_pos rfl, if_pos rfl, dz]
          show 1 + _ = _
          omega
        · have c2 : ¬ i + 1 = j := fun e => c e.symm
          rw [if_neg c, if_neg c2]
          rfl
      · rw [dl]
        have := h4 j
        by_cases c : o = j
        · subst c
          rw [if_pos rfl, if_neg (by omega)]
          omega
        · rw [if_neg c]
          by_cases c2 : i + 1 = j
          · subst c2
            rw [if_pos rfl, dz]
            omega
          · rw [if_neg c2]
            omega
      · rw [dl, dz, if_neg (by omega), if_pos rfl]
        omega
    · obtain ⟨rs, lsv, L, y4, y5, y6, rfl, S, hrs, D, h4, h1⟩ := h
      have ed : (1 + (d : Int) - 1).toNat = d := by omega
      rw [ed] at hrs D h1
      have eL := D.len
      have eL' : L.length = d := by omega
      -- many, place = len(ties), len(ties)
      have lrs : (rs.map V.ref).length = d + 1 := by rw [List.length_map]; exact hrs
      refine ⟨_, rfl, _, _, rfl, .inl ⟨_, Evl.sq_of S.ht, rfl⟩, _, rfl, _, _, rfl, .inl ⟨_, Evl.sq_of S.ht, rfl⟩, _, _, rfl, ?_⟩
      rw [lrs]
      -- for yard in range(many)
      refine ⟨_, rfl, ((d + 1 : Nat) : Int), rfl, by omega, by omega, ?_⟩
      refine for_range (lo := 0) (n := ((d + 1 : Nat) : Int).toNat) (fun kk σ' H' => ∃ lsv L2 y4 y9 y10, σ' = [some (.ref p), some (vI m), some (.ref tt), some (.ref ll), y4, y5, y6, some (vI (d + 1)), some (vI (L2.length + 1)), y9, y10, none, none, none, none] ∧ St1 H H' p tt ll rs lsv L2 (deg L) ∧ Drawn (L2.length + 1) L2 ∧ (∀ j, j < kk → 2 ≤ deg L2 j ∧ deg L2 j ≤ 4) ∧ (∀ j, kk ≤ j → j < d + 1 → deg L2 j = deg L j) ∧ (∀ j, d + 1 ≤ j → deg L2 j ≤ 1) ∧ d ≤ L2.length ∧ L2.length ≤ d + 3 * kk)
        ⟨lsv, L, _, none, none, by rw [eL']; rfl, S, by rw [eL']; exact D, fun j hj => by omega, fun j _ _ => rfl, fun j hj => by rw [D.zero hj]; omega, by omega, by omega⟩ (fun kk σ' H3 hi h => ?_) (fun σ' H3 h => ?_)
      · obtain ⟨lsv, L2, y4, y9, y10, rfl, S, D2, g1, g2, g3, g4, g5⟩ := h
        have hkd : kk < d + 1 := by omega
        have ey : V.int (0 + (kk : Int)) = vI kk := by show V.int _ = V.int _; congr 1; omega
        have hl : kk < rs.length := by omega
        have rowlen : ∀ {σ : _root_.L2.St} {H4 : Hp}, St1 H H4 p tt ll rs lsv L2 (deg L) → σ[2]? = some (some (.ref tt)) → σ[4]? = some (some (vI kk)) → Ev (tCB (rLenA K) (tCons (tOp (rIxL K) (tVar 2) (tVar 4)) tNil)) σ H4 (vI (deg L kk)) := fun {σ H4} S hs hk => by
          obtain ⟨xs, hx, hxl⟩ := S.row kk rs[kk] (List.getElem?_eq_getElem hl)
          have := ev_lenL (K := K) (ta := tOp (rIxL K) (tVar 2) (tVar 4)) (σ := σ) (H := H4) (Evl.ev_op (Evl.ev_var hs) (Evl.ev_var hk) (Evl.rv_ixL (v := .ref rs[kk]) (Evl.sq_of S.ht) (at_of rfl (by rw [List.getElem?_map, List.getElem?_eq_getElem hl]; rfl)))) (Evl.sq_of hx)
          rw [hxl] at this
          exact this
        show tSeq (tAsg (tCB _ _) (gName 9)) _ _ ([some (.ref p), some (vI m), some (.ref tt), some (.ref ll), some (V.int (0 + (kk : Int))), y5, y6, some (vI (d + 1)), some (vI (L2.length + 1)), y9, y10, none, none, none, none]) H3
        rw [ey]
        have hdeg := h4 kk
        have hd2 : deg L2 kk = deg L kk := g2 kk (Nat.le_refl _) hkd
        -- lacking = max(2 - len(ties[yard]), 0)
        refine p_asg (P := Is (vI (2 - deg L kk))) (evp_ev (ev_cb2 (Evl.ev_op Evl.ev_c (rowlen S rfl rfl) rv_I0P) Evl.ev_c fun H5 _ Q' q => ⟨_, _, rfl, ?_⟩)) fun v H4 e4 hv => ?_
        · have e : (if (0 : Int) > 2 - (deg L kk : Int) then (0 : Int) else 2 - (deg L kk : Int)) = ((2 - deg L kk : Nat) : Int) := by split <;> omega
          rw [e]
          exact q
        cases hv
        have S4 := S.byEx e4
        -- what follows, whatever is lacking
        have rest : ∀ (lk : Nat) (z : Int) (H5 : Hp) (D0 : Ends), z = (lk : Int) → lk ≤ 3 → 2 ≤ deg L kk + lk → deg L kk + lk ≤ 4 → St1 H H5 p tt ll rs lsv L2 (deg L) →
            (∀ lsv' L3 y10' H6, St1 H H6 p tt ll rs lsv' L3 (deg L) → Drawn (L3.length + 1) L3 → deg L3 kk = deg L kk + lk → (∀ j, j ≠ kk → j < d + 1 → deg L3 j = deg L2 j) → (∀ j, d + 1 ≤ j → deg L3 j ≤ 1) → L3.length = L2.length + lk →
              D0.nx [some (.ref p), some (vI m), some (.ref tt), some (.ref ll), some (vI kk), y5, y6, some (vI (d + 1)), some (vI (L3.length + 1)), some (vI lk), y10', none, none, none, none] H6) →
            tFor (iRng1 (tCons (tVar 9) tNil)) (gName 10) (tSeq (tDrop (tBM K "list" rAppend (tVar 3) (tCons (tTup (tCons (tVar 4) (tCons (tVar 8) tNil))) tNil))) (tAsg (tOp (rI0 fun i j => V.int (i + j)) (tVar 8) (tC (V.int 1))) (gName 8))) D0
              [some (.ref p), some (vI m), some (.ref tt), some (.ref ll), some (vI kk), y5, y6, some (vI (d + 1)), some (vI (L2.length + 1)), some (.int z), y10, none, none, none, none] H5 := by
          intro lk z H5 D0 hz l3 l2 l4 S5 kont
          subst hz
          refine ⟨_, rfl, (lk : Int), rfl, by omega, by omega, ?_⟩
          refine for_range (lo := 0) (n := (lk : Int).toNat) (fun t σ' H' => ∃ lsv' L3 y10', σ' = [some (.ref p), some (vI m), some (.ref tt), some (.ref ll), some (vI kk), y5, y6, some (vI (d + 1)), some (vI (L3.length + 1)), some (vI lk), y10', none, none, none, none] ∧ St1 H H' p tt ll rs lsv' L3 (deg L) ∧ Drawn (L3.length + 1) L3 ∧ deg L3 kk = deg L kk + t ∧ (∀ j, j ≠ kk → j < d + 1 → deg L3 j = deg L2 j) ∧ (∀ j, d + 1 ≤ j → deg L3 j ≤ 1) ∧ L3.length = L2.length + t)
            ⟨lsv, L2, y10, rfl, S5, D2, hd2, fun _ _ _ => rfl, g3, rfl⟩ (fun t σ' H6 ht h => ?_) (fun σ' H6 h => ?_)
          · obtain ⟨lsv', L3, y10', rfl, S6, D3, q1, q2, q3, q4⟩ := h
            have ell : lsv'.length = L3.length := PySem.Paired.length S6.pr
            -- lanes.append((yard, place))
            refine ⟨_, rfl, .inl ⟨rfl, _, .inl (.inl S6.hl)⟩, _, rfl, _, rfl, (by show 2 ≤ sizeLine; decide), fun tu htu => ?_⟩
            have nlt : ll ≠ tu := ne_of_none S6.hl htu
            refine ⟨ll, _, _, rfl, rfl, by rw [upd_ne nlt]; exact S6.hl, szN (by omega), ?_⟩
            have S7 := S6.lane (a := kk) (b := L3.length + 1) htu
            -- place = place + 1
            have dl : ∀ j, deg (L3 ++ [(kk, L3.length + 1)]) j = deg L3 j + ((if kk = j then 1 else 0) + (if L3.length + 1 = j then 1 else 0)) := fun j => deg_snoc L3 kk (L3.length + 1) j
            have len3 : (L3 ++ [(kk, L3.length + 1)]).length = L3.length + 1 := by rw [List.length_append]; rfl
            have dz : deg L3 (L3.length + 1) = 0 := D3.zero (Nat.le_refl _)
            refine ⟨_, rfl, _, _, rfl, rfl, lsv' ++ [.ref tu], L3 ++ [(kk, L3.length + 1)], some (.int (0 + (t : Int))), ?_, S7, by rw [len3]; exact D3.more (by omega), ?_, fun j nj hj => ?_, fun j hj => ?_, by rw [len3]; omega⟩
            · rw [len3]
              rfl
            · rw [dl, if_pos rfl, if_neg (by omega), q1]
              omega
            · rw [dl, if_neg (fun e => nj e.symm), if_neg (by omega)]
              exact q2 j nj hj
            · rw [dl, if_neg (by omega)]
              have := q3 j hj
              by_cases c : L3.length + 1 = j
              · rw [if_pos c, ← c, dz]
                omega
              · rw [if_neg c]
                omega
          · obtain ⟨lsv', L3, y10', rfl, S6, D3, q1, q2, q3, q4⟩ := h
            have et : ((lk : Int).toNat) = lk := by omega
            rw [et] at q1 q4
            exact kont lsv' L3 y10' H6 S6 D3 q1 q2 q3 q4
        have fin : ∀ (lk : Nat) (H5 : Hp), lk ≤ 3 → 2 ≤ deg L kk + lk → deg L kk + lk ≤ 4 → St1 H H5 p tt ll rs lsv L2 (deg L) → ∀ lsv' L3 y10' H6, St1 H H6 p tt ll rs lsv' L3 (deg L) → Drawn (L3.length + 1) L3 → deg L3 kk = deg L kk + lk → (∀ j, j ≠ kk → j < d + 1 → deg L3 j = deg L2 j) → (∀ j, d + 1 ≤ j → deg L3 j ≤ 1) → L3.length = L2.length + lk →
            ∃ lsv L2 y4 y9 y10, [some (.ref p), some (vI m), some (.ref tt), some (.ref ll), some (vI kk), y5, y6, some (vI (d + 1)), some (vI (L3.length + 1)), some (vI lk), y10', none, none, none, none] = [some (.ref p), some (vI m), some (.ref tt), some (.ref ll), y4, y5, y6, some (vI (d + 1)), some (vI (L2.length + 1)), y9, y10, none, none, none, none] ∧ St1 H H6 p tt ll rs lsv L2 (deg L) ∧ Drawn (L2.length + 1) L2 ∧ (∀ j, j < kk + 1 → 2 ≤ deg L2 j ∧ deg L2 j ≤ 4) ∧ (∀ j, kk + 1 ≤ j → j < d + 1 → deg L2 j = deg L j) ∧ (∀ j, d + 1 ≤ j → deg L2 j ≤ 1) ∧ d ≤ L2.length ∧ L2.length ≤ d + 3 * (kk + 1) := by
          intro lk H5 l3 l2 l4 _ lsv' L3 y10' H6 S6 D3 q1 q2 q3 q4
          refine ⟨lsv', L3, _, _, _, rfl, S6, D3, fun j hj => ?_, fun j hj hj2 => ?_, q3, by omega, by omega⟩
          · by_cases c : j = kk
            · subst c
              omega
            · rw [q2 j c (by omega)]
              exact g1 j (by omega)
          · rw [q2 j (by omega) hj2]
            exact g2 j (by omega) hj2
        -- lacking + (1 if draw(pot, 3) == 0 and .. else 0)
        refine ⟨_, rfl, _, rfl, p, 3, rfl, S4.pot, by decide, by decide, fun d3 H5 hd3 hp5 e5 => ⟨rfl, _, rfl, ?_⟩⟩
        have S5 := S4.byPot e5 hp5
        refine ite2 (fun _ => ?_) (fun _ => ?_)
        · refine rowlen S5 rfl rfl H5 (Ex.refl _) _ fun H6 e6 => ⟨_, rfl, _, _, rfl, rfl, _, _, rfl, rfl, _, rfl, ?_⟩
          have S6 := S5.byEx e6
          refine ite2 (fun hc => ?_) (fun hc => ?_)
          · have hc := of_decide_eq_true hc
            refine ⟨_, _, rfl, rfl, ?_⟩
            have hlk : deg L kk + (2 - deg L kk + 1) ≤ 4 := by omega
            exact rest (2 - deg L kk + 1) _ H6 _ (by omega) (by omega) (by omega) hlk S6 (fin (2 - deg L kk + 1) H6 (by omega) (by omega) hlk S6)
          · refine ⟨_, _, rfl, rfl, ?_⟩
            exact rest (2 - deg L kk) _ H6 _ (by omega) (by omega) (by omega) (by omega) S6 (fin (2 - deg L kk) H6 (by omega) (by omega) (by omega) S6)
        · refine ⟨_, _, rfl, rfl, ?_⟩
          exact rest (2 - deg L kk) _ H5 _ (by omega) (by omega) (by omega) (by omega) S5 (fin (2 - deg L kk) H5 (by omega) (by omega) (by omega) S5)
      · obtain ⟨lsv, L2, y4, y9, y10, rfl, S, D2, g1, g2, g3, g4, g5⟩ := h
        have ed2 : ((d + 1 : Nat) : Int).toNat = d + 1 := by omega
        rw [ed2] at g1 g2 g5
        have DD : Done (d + 1) L2 := ⟨D2, g1, g3, by omega, by omega, by omega, by omega⟩
        have hsm := DD.small
        -- left, places = list(range(place)), []
        refine ⟨_, rfl, _, rfl, .of_le (by omega) (by omega) (by omega) (by omega), fun lf hlf => ⟨(by show 0 ≤ sizeLine; decide), fun pl hpl => ⟨(by show 2 ≤ sizeLine; decide), fun tu htu => ⟨tu, _, rfl, Evl.st_of upd_same, rfl, _, _, rfl, _, _, rfl, rfl, ?_⟩⟩⟩⟩
        rw [rgV_N] at hpl htu ⊢
        obtain ⟨lf0, lfp⟩ := S.free hlf
        have S3 := S.byEx (H' := upd H3 lf (.lst (vIs (List.range (L2.length + 1))))) (Ex.new hlf)
        obtain ⟨pl0, plp⟩ := S3.free hpl
        have nfq : lf ≠ pl := fun e => by rw [← e, upd_same] at hpl; cases hpl
        have nlf : ll ≠ lf := ne_of_none S.hl hlf
        have nlq : ll ≠ pl := ne_of_none S3.hl hpl
        have S4 := S3.byEx (H' := upd (upd H3 lf (.lst (vIs (List.range (L2.length + 1))))) pl (.lst [])) (Ex.new hpl)
        have T4 : St2 H (upd (upd H3 lf (.lst (vIs (List.range (L2.length + 1))))) pl (.lst [])) p ll lf pl lsv L2 (List.range (L2.length + 1)) [] := ⟨S4.pot, S4.ex, S4.hl, S4.pr, by rw [upd_ne nfq, upd_same], upd_same, S.fl, lf0, pl0, S.nlp, lfp, plp, nlf, nlq, nfq⟩
        have T5 := T4.byEx (Ex.new (o := .tup [.ref lf, .ref pl]) htu)
        generalize upd (upd (upd H3 lf (.lst (vIs (List.range (L2.length + 1))))) pl (.lst [])) tu (.tup [.ref lf, .ref pl]) = H4 at T5
        clear T4 S4 S3 htu hpl
        show tSeq (tWhile _ _) _ _ ([some (.ref p), some (vI m), some (.ref tt), some (.ref ll), y4, y5, y6, some (vI (d + 1)), some (vI (L2.length + 1)), y9, y10, some (.ref lf), some (.ref pl), none, none]) H4
        refine Evl.q_while (fun n σ' H' => ∃ l q, σ' = [some (.ref p), some (vI m), some (.ref tt), some (.ref ll), y4, y5, y6, some (vI (d + 1)), some (vI (L2.length + 1)), y9, y10, some (.ref lf), some (.ref pl), none, none] ∧ St2 H H' p ll lf pl lsv L2 l q ∧ (q ++ l).Perm (List.range (L2.length + 1)) ∧ n = l.length) (L2.length + 1)
          ⟨List.range (L2.length + 1), [], rfl, T5, List.Perm.refl _, by simp⟩ (fun n σ' H5 h => ?_)
        obtain ⟨l, q, rfl, T6, pm, rfl⟩ := h
        have hql : q.length + l.length = L2.length + 1 := by
          have := pm.length_eq
          rw [List.length_append, List.length_range] at this
          exact this
        refine ⟨!decide (l = []), Evl.et_test (fun H6 e6 Q' q' => ⟨_, rfl, (by show 0 ≤ sizeLine; decide), fun e he => ⟨dN l, dN [], dp_N (Evl.sq_of ((Ex.new he) _ _ (e6 _ _ T6.hf))), dp_N (Evl.sq_of upd_same), shaped_N _, shaped_N _, ?_⟩⟩), fun hb H6 e6 => ?_, fun hb H6 e6 => ?_⟩
        · rw [eqv_N]
          exact q' _ (Ex.new he)
        · have hne : l ≠ [] := fun e => by rw [e] at hb; cases hb
          have hpos : 0 < l.length := List.length_pos_iff.mpr hne
          have T7 := T6.byEx e6
          refine ⟨fun σ2 H7 => ∃ l' q', σ2 = [some (.ref p), some (vI m), some (.ref tt), some (.ref ll), y4, y5, y6, some (vI (d + 1)), some (vI (L2.length + 1)), y9, y10, some (.ref lf), some (.ref pl), none, none] ∧ St2 H H7 p ll lf pl lsv L2 l' q' ∧ (q' ++ l').Perm (List.range (L2.length + 1)) ∧ l'.length < l.length, fun σ2 H7 ⟨l', q', a1, a2, a3, a4⟩ => ⟨_, a4, l', q', a1, a2, a3, rfl⟩, ?_⟩
          -- places.append(left.pop(draw(pot, len(left))))
          refine ⟨_, rfl, .inl ⟨rfl, _, .inl (.inl T7.hp)⟩, _, rfl, .inl ⟨rfl, _, .inl (.inl T7.hf)⟩, _, rfl, _, rfl, _, _, rfl, .inl ⟨_, Evl.sq_of T7.hf, rfl⟩, p, l.length, (by rw [List.length_map]; rfl), T7.pot, hpos, by omega, fun dd H8 hdd hp8 e8 => ?_⟩
          have T8 := T7.byPot e8 hp8
          have hx : l[dd]? = some l[dd] := List.getElem?_eq_getElem hdd
          refine ⟨lf, vIs l, (dd : Int), dd, vI l[dd], rfl, rfl, T8.hf, by omega, by omega, by rw [List.length_map]; exact seqIx hdd, by rw [List.getElem?_map, hx]; rfl, ?_⟩
          rw [erase_vIs]
          have T9 := T8.pop (l' := l.eraseIdx dd)
          refine ⟨pl, vIs q, vI l[dd], rfl, rfl, T9.hp, by rw [List.length_map]; exact szN (by omega), ?_⟩
          have eq : vIs q ++ [vI l[dd]] = vIs (q ++ [l[dd]]) := by unfold vIs; rw [List.map_append]; rfl
          rw [eq]
          have T10 := T9.put (q' := q ++ [l[dd]])
          refine ⟨l.eraseIdx dd, q ++ [l[dd]], rfl, T10, ?_, by rw [List.length_eraseIdx]; rw [if_pos hdd]; omega⟩
          rw [List.append_assoc]
          exact (List.Perm.append_left q (erase_perm hx).symm).trans pm
        · have hl0 : l = [] := by
            have := of_decide_eq_true (show decide (l = []) = true by cases h : decide (l = []) with | true => rfl | false => rw [h] at hb; cases hb)
            exact this
          subst hl0
          rw [List.append_nil] at pm
          have hql : q.length = L2.length + 1 := by simpa using hql
          have T7 := T6.byEx e6
          have M : Mixed (L2.length + 1) q := ⟨hql, pm⟩
          obtain ⟨vt, G⟩ := DD.good M
          -- return [..]
          refine p_ret (P := fun v _ Hb => ∃ a, v = .ref a ∧ H6 a = none ∧ LanesAt Hb a (ren (fun i => q.getD i 0) L2)) (EvP.imp (lcT (src_list (K := K) (Evl.ev_var rfl) (Evl.sq_of T7.hl)) T7.pr (by omega) (fun x => [some (.ref p), some (vI m), some (.ref tt), some (.ref ll), y4, y5, some (vI x.2), some (vI (d + 1)), some (vI (L2.length + 1)), y9, y10, some (.ref lf), some (.ref pl), none, some (vI x.1)]) (fun _ => rfl) (fun x t H8 Q' _ h k => (by exact go_tup (i := 14) (j := 6) h k)) (fun x => (q.getD x.1 0, q.getD x.2 0)) (fun x H8 hx e8 => ?_)) (fun v Ha Hb ea eb h => ?_)) fun v H8 e8 h => ?_
          · have hb := Grow.ends D2 (.inl (List.mem_reverse.mpr hx))
            have hb1 : x.1 < q.length := by have := hb.1; simp at this; omega
            have hb2 : x.2 < q.length := by have := hb.2; simp at this; omega
            have it : ∀ {σ : _root_.L2.St} {j : Nat} {i : Nat}, σ[12]? = some (some (.ref pl)) → σ[j]? = some (some (vI i)) → i < q.length → Ev (tOp (rIxL K) (tVar 12) (tVar j)) σ H8 (vI (q.getD i 0)) := fun h1 h2 h3 => Evl.ev_op (Evl.ev_var h1) (Evl.ev_var h2) (Evl.rv_ixL (Evl.sq_of (e8 _ _ T7.hp)) (at_of rfl (by rw [List.getElem?_map, TM.getD_at h3]; rfl)))
            exact evp_tup (vs := [vI (q.getD x.1 0), vI (q.getD x.2 0)]) (Evl.ea_cons (it rfl rfl hb1) (Evl.ea_cons (it rfl rfl hb2) Evl.ea_nil)) (by show 2 ≤ 100000; decide)
          · obtain ⟨a, r, h1, h2⟩ := h
            exact ⟨a, r, Evl.fresh_back ea h1, h2⟩
          · obtain ⟨a, rfl, ha, hL⟩ := h
            have hna : a ≠ p := fun e => by
              obtain ⟨z1, z2, hz, _⟩ := T7.pot
              rw [e, hz] at ha
              cases ha
            exact k a _ vt H8 G hL (T7.ex.free ha hna) (T7.ex.trans (.of e8)) (T7.pot.ex e8)
end
end K15

set_option Elab.async false
set_option linter.all false
set_option maxRecDepth 100000
set_option maxHeartbeats 4000000
namespace Pr
open PySem PySem.Spec PyProof.Rows L2 TM
open Evl (Ex)
def spWay : Sp := fun vs H Q _ => ∃ L vt a s e, vs = [.ref a, vI s, vI e] ∧ LanesAt H a L ∧ Good vt L ∧ s ∈ vt ∧ e ∈ vt ∧ ∀ q H' W, Ex H H' → Path L s e W → H' q = some (.lst (vIs W)) → Q (.ref q) H'
def RowAt (H : Hp) (rr : Addr) (v : V) (r : List Nat) : Prop := ∃ t, t ≠ rr ∧ v = .ref t ∧ H t = some (.lst (vIs r))
theorem RowAt.ex {H H' : Hp} {rr : Addr} {v : V} {r : List Nat} (e : Ex H H') (h : RowAt H rr v r) : RowAt H' rr v r := by
  obtain ⟨t, a, b, c⟩ := h
  exact ⟨t, a, b, e _ _ c⟩
theorem RowAt.put {H : Hp} {rr : Addr} {v : V} {r : List Nat} {o : HO} (h : RowAt H rr v r) : RowAt (upd H rr o) rr v r := by
  obtain ⟨t, a, b, c⟩ := h
  exact ⟨t, a, b, by rw [upd_ne a]; exact c⟩
theorem paired_app {α β : Type} {R : α → β → Prop} : ∀ {xs us : List α} {ys ws : List β}, Paired R xs ys → Paired R us ws → Paired R (xs ++ us) (ys ++ ws)
  | _, _, _, _, .nil, h => h
  | _, _, _, _, .cons h t, k => .cons h (paired_app t k)
theorem paired_iy {α β : Type} {R : α → β → Prop} : ∀ {xs : List α} {ys : List β} {i : Nat} {y : β}, Paired R xs ys → ys[i]? = some y → ∃ x, xs[i]? = some x ∧ R x y
  | _, _, _, _, .nil, e => by simp at e
  | _, _, 0, _, .cons r _, e => by simp at e; subst e; exact ⟨_, rfl, r⟩
  | _, _, i + 1, x, .cons _ t, e => by
    obtain ⟨u, h1, h2⟩ := paired_iy (i := i) (y := x) t (by simpa using e)
    exact ⟨u, by simpa using h1, h2⟩
theorem at_last {l : List Nat} {t : Nat} (h : l.getLast? = some t) : atI (vIs l) (-1) = some (vI t) := by
  obtain ⟨ys, e⟩ := List.getLast?_eq_some_iff.mp h
  rw [e]
  have : vIs (ys ++ [t]) = vIs ys ++ [vI t] := by unfold vIs; rw [List.map_append]; rfl
  rw [this]
  exact atI_last _ _
end Pr
set_option Elab.async false
set_option linter.all false
set_option maxRecDepth 100000
set_option maxHeartbeats 4000000
namespace Pr
open PySem PySem.Spec PyProof.Rows L2 TM Ep
open Evl (Ex Ev EvT EvA EvL)
def spSide (C : Addr) : Sp := fun vs H Q _ => ∃ L vt N c a ya y t, vs = [.ref c, .ref a, .ref ya, vI y, vI t] ∧ CAt C H c L ∧ LanesAt H a L ∧ H ya = some (.lst (vIs (yardsL L))) ∧ Good vt L ∧ IsNext vt L N ∧ y ∈ yardsL L ∧ t ∈ adj L y ∧ ∀ H', Ex H H' → Q (.bl true) H'
section
variable {K : PySem.W.Frag} {σ : L2.St} {H : Hp} {te ta tb : TE} {P : VP} {x y z : V}
theorem ev_opP {r : R2} (ha : EvP ta σ H P) (hb : Ev tb σ H y) (hr : ∀ v H1 H2, Ex H H1 → Ex H1 H2 → P v H1 H2 → Evl.RV r v y H2 z) : Ev (tOp r ta tb) σ H z := fun H0 e Q q =>
  ha H0 e _ fun v H1 e1 p => hb H1 (e.trans e1) _ fun H2 e2 => hr v H0 H1 e e1 p H2 e2 Q fun H3 e3 => q H3 ((e1.trans e2).trans e3)
theorem ev_repr {a : Addr} {l : List Nat} (h : Ev te σ H (.ref a)) (ho : H a = some (.lst (vIs l))) (hs : ∀ x ∈ l, x < 1024) (hl : l.length ≤ 1001) : Ev (tCB (G8.rRepr K) (tCons te tNil)) σ H (.str (dN l).shown) :=
  ev_cb1 h fun H1 e Q q => repr_N (Evl.sq_of (e _ _ ho)) hs hl q
theorem ev_reprP {l : List Nat} (h : EvP te σ H (NewL (vIs l))) (hs : ∀ x ∈ l, x < 1024) (hl : l.length ≤ 1001) : Ev (tCB (G8.rRepr K) (tCons te tNil)) σ H (.str (dN l).shown) := fun H1 e Q q =>
  h H1 e _ fun v H2 e2 ⟨p, r, _, k⟩ => by
    subst r
    exact repr_N (Evl.sq_of k) hs hl (q H2 e2)
theorem rv_eqN {a b : Addr} {l m : List Nat} (h1 : H a = some (.lst (vIs l))) (h2 : H b = some (.lst (vIs m))) : Evl.RV (rEqD K) (.ref a) (.ref b) H (.bl (decide (l = m))) := fun H1 e Q q =>
  ⟨dN l, dN m, dp_N (Evl.sq_of (e _ _ h1)), dp_N (Evl.sq_of (e _ _ h2)), shaped_N _, shaped_N _, by rw [eqv_N]; exact q H1 (Ex.refl _)⟩
theorem rv_neN {a b : Addr} {l m : List Nat} (h1 : H a = some (.lst (vIs l))) (h2 : H b = some (.lst (vIs m))) : Evl.RV (rNeD K) (.ref a) (.ref b) H (.bl (!decide (l = m))) := fun H1 e Q q =>
  ⟨dN l, dN m, dp_N (Evl.sq_of (e _ _ h1)), dp_N (Evl.sq_of (e _ _ h2)), shaped_N _, shaped_N _, by rw [eqv_N]; exact q H1 (Ex.refl _)⟩
theorem ev_beh {C : Addr} {L : Lanes} {vt : List Nat} {N : Nat → Nat → Nat} {c : Addr} {y t : Nat} {ts : TA} (hC : CAt C H c L) (G : Good vt L) (I : IsNext vt L N) (hy : y ∈ yardsL L) (ht : t ∈ adj L y) (h : EvA ts σ H [.ref c, vI y, vI t]) : EvP (tCall (spBehind C) [] E0 ts) σ H (NewL (vIs (bh L N y t))) :=
  evp_callA h (fun H2 e2 Q q => ⟨L, vt, N, c, y, t, rfl, hC.ex e2, G, I, hy, ht, fun q' H3 e3 hq hq' => q _ H3 e3 ⟨q', rfl, hq, hq'⟩⟩) (fun v H1 H2 H3 _ e12 _ h => newL_back e12 h)
theorem ev_sortN {l : List Nat} (h : EvP te σ H (fun v _ Hb => ∃ p, v = .ref p ∧ Hb p = some (.lst (vIs l)))) : EvP (tCB (rSortedI K) (tCons te tNil)) σ H (NewL (vIs (isort l))) :=
  evp_cb1 h fun v Ha Hb _ eab h Q' q => by
    obtain ⟨p, rfl, hp⟩ := h
    refine ⟨p, l.map fun (n : Nat) => (n : Int), rfl, ?_, fun ns' c perm srt hc => ?_⟩
    · rw [← vIs_int]
      exact Evl.sq_of hp
    · have := int_sorted perm srt
      subst this
      rw [← vIs_int]
      exact q _ _ (Ex.new hc) ⟨c, rfl, Evl.fresh_back eab hc, upd_same⟩
theorem ev_catN {a : Addr} {l m : List Nat} (h : Ev ta σ H (.ref a)) (ho : H a = some (.lst (vIs l))) (h2 : EvP tb σ H (NewL (vIs m))) (hs : l.length + m.length ≤ 100000) : EvP (tOp rCat ta tb) σ H (fun v _ Hb => ∃ p, v = .ref p ∧ Hb p = some (.lst (vIs (l ++ m)))) := fun H1 e Q q =>
  h H1 e _ fun H2 e2 => h2 H2 (e.trans e2) _ fun v H3 e3 ⟨p, r, hp, k⟩ => by
    subst r
    refine ⟨a, p, vIs l, vIs m, rfl, rfl, ((e.trans e2).trans e3) _ _ ho, k, ?_, fun c hc => q _ _ ((e2.trans e3).trans (Ex.new hc)) ⟨c, rfl, ?_⟩⟩
    · rw [List.length_map, List.length_map]
      exact szL hs
    · rw [upd_same]
      unfold vIs
      rw [List.map_append]
theorem small_bh {vt : List Nat} {L : Lanes} (G : Good vt L) {N : Nat → Nat → Nat} {y t : Nat} : ∀ x ∈ bh L N y t, x < 1024 := fun x hx => by
  have := (mem_yards.mp (mem_bh.mp hx).1).1
  have := G.small
  omega
end
end Pr
namespace Pr
open PySem PySem.Spec PyProof.Rows L2 TM Ep
open Evl (Ex Ev EvT EvA EvL EvO)
def spRight : Sp := fun vs H Q _ => ∃ p, vs = [.ref p] ∧ PotAt H p ∧ ∀ H', Q (.bl true) H'
def spLaw (K : PySem.W.Frag) : Sp := fun vs H Q _ => ∃ (a : Addr) (ns : List Int), vs = [.ref a] ∧ SqL K H a (ns.map V.int) ∧ ∀ H', Q (.bl true) H'
theorem but_exB {p : Addr} {H H' : Hp} (e : ExB p H H') : Ex (but H p) (but H' p) := fun b o h => by
  unfold but at h ⊢
  split at h
  · cases h
  · rename_i n
    rw [if_neg n]
    exact e b o h n
/-- all but what is locked -/
def Nf (H H' : Hp) : Prop := ∀ b o, H b = some o → (∀ od u, o ≠ HO.frz od u) → H' b = some o
theorem Nf.but {H : Hp} {p : Addr} {od : Obj} {u : HO} (h : H p = some (.frz od u)) (v : HO) : Nf H (but (upd H p v) p) := fun b o hb n => by
  have nb : b ≠ p := fun z => by
    rw [z, h] at hb
    exact n od u (Option.some.inj hb).symm
  exact but_ne (by rw [upd_ne nb]; exact hb) nb
theorem LanesAt.nf {H H' : Hp} {a : Addr} {L : Lanes} (e : Nf H H') (h : LanesAt H a L) : LanesAt H' a L := by
  obtain ⟨vs, r, k⟩ := h
  exact ⟨vs, e _ _ r (fun _ _ z => nomatch z), paired_imp (fun _ _ ⟨t, q, z⟩ => ⟨t, q, e _ _ z (fun _ _ z => nomatch z)⟩) k⟩
theorem CAt.nf {C : Addr} {H H' : Hp} {p : Addr} {L : Lanes} (x : Nf H H') (h : CAt C H p L) : CAt C H' p L := by
  obtain ⟨dx, l, d, e, y, g, rs, qs, a, b⟩ := h
  refine ⟨dx, l, d, e, y, g, rs, qs, x _ _ a (fun _ _ z => nomatch z), ?_, x _ _ b.d_ (fun _ _ z => nomatch z), ⟨b.r_.len, fun i r k => x _ _ (b.r_.at_ i r k) (fun _ _ z => nomatch z)⟩, x _ _ b.e_ (fun _ _ z => nomatch z), b.ql, fun i q k => ?_, x _ _ b.y_ (fun _ _ z => nomatch z), x _ _ b.g_ (fun _ _ z => nomatch z)⟩
  · obtain ⟨M, u, v, sv⟩ := b.l_
    exact ⟨M, u.nf x, v, sv⟩
  · obtain ⟨kvs, u, v⟩ := b.q_ i q k
    exact ⟨kvs, u, x _ _ v (fun _ _ z => nomatch z)⟩
theorem LanesAt.exB {H H' : Hp} {p a : Addr} {L : Lanes} (e : ExB p H H') (hp : PotAt H p) (n : a ≠ p) (h : LanesAt H a L) : LanesAt H' a L := by
  obtain ⟨vs, r, k⟩ := h
  exact ⟨vs, e _ _ r n, paired_imp (fun _ _ ⟨t, q, z⟩ => ⟨t, q, e _ _ z (hp.ne z (fun _ _ z => nomatch z))⟩) k⟩
theorem mem_cutV {x : V} {xs : List V} {lo hi : Option Int} (h : x ∈ cutV xs lo hi) : x ∈ xs := List.mem_of_mem_drop (List.mem_of_mem_take h)
theorem cutV_len {xs : List V} {lo hi : Option Int} : (cutV xs lo hi).length ≤ xs.length := by
  unfold cutV
  rw [List.length_take, List.length_drop]
  omega
section
variable {K : PySem.W.Frag} {σ : L2.St} {H : Hp} {te ta tb : TE}
def OldL (xs : List V) : VP := fun v _ H2 => ∃ p, v = .ref p ∧ H2 p = some (.lst xs)
theorem oldL {xs : List V} (h : EvP te σ H (NewL xs)) : EvP te σ H (OldL xs) := h.imp fun v _ _ _ _ ⟨p, r, _, k⟩ => ⟨p, r, k⟩
theorem evp_sl {tl th : TO} {xs : List V} {lo hi : Option Int} (h : EvP te σ H (OldL xs)) (h1 : EvO tl σ H lo) (h2 : EvO th σ H hi) : EvP (tSl (rSlL K) te tl th) σ H (NewL (cutV xs lo hi)) := fun H1 e Q q =>
  h H1 e _ fun v H2 e2 ⟨p, r, k⟩ => h1 H2 (e.trans e2) _ fun H3 e3 => h2 H3 ((e.trans e2).trans e3) _ fun H4 e4 =>
    ⟨p, xs, r, Evl.sq_of ((e3.trans e4) _ _ k), fun c hc => q _ _ (((e2.trans e3).trans e4).trans (Ex.new hc)) ⟨c, rfl, Evl.fresh_back ((e2.trans e3).trans e4) hc, upd_same⟩⟩
theorem evp_cat {xs ys : List V} (h : EvP ta σ H (OldL xs)) (h2 : EvP tb σ H (OldL ys)) (hs : xs.length + ys.length ≤ 100000) : EvP (tOp rCat ta tb) σ H (NewL (xs ++ ys)) := fun H1 e Q q =>
  h H1 e _ fun v H2 e2 ⟨a, r, k⟩ => h2 H2 (e.trans e2) _ fun u H3 e3 ⟨b, r', k'⟩ =>
    ⟨a, b, xs, ys, r, r', e3 _ _ k, k', szL hs, fun c hc => q _ _ ((e2.trans e3).trans (Ex.new hc)) ⟨c, rfl, Evl.fresh_back (e2.trans e3) hc, upd_same⟩⟩
end
end Pr

set_option Elab.async false
set_option linter.all false
set_option maxRecDepth 100000
set_option maxHeartbeats 4000000
namespace Pr
open PySem PySem.Spec PyProof.Rows L2 TM Ep
open Evl (Ex Ev EvT EvA EvL)
def spPlaceC (C : Addr) : Sp := fun vs H Q _ => ∃ L p i, vs = [.ref p, vI i] ∧ CAt C H p L ∧ i < L.length + 1 ∧ ∀ H', Ex H H' → Q .non H'
def spAlong (C : Addr) : Sp := fun vs H Q _ => ∃ L vt W p s e, vs = [.ref p, vI s, vI e] ∧ CAt C H p L ∧ Good vt L ∧ s ∈ vt ∧ e ∈ vt ∧ Path L s e W ∧ ∀ q H', Ex H H' → H q = none → H' q = some (.lst (vIs W)) → Q (.ref q) H'
def spLong (C : Addr) : Sp := fun vs H Q _ => ∃ L vt W p s e, vs = [.ref p, vI s, vI e] ∧ CAt C H p L ∧ Good vt L ∧ s ∈ vt ∧ e ∈ vt ∧ Path L s e W ∧ ∀ H', Ex H H' → Q (.int ((W.length : Int) - 1)) H'
def spNextP (C : Addr) : Sp := fun vs H Q _ => ∃ L vt p s e h r, vs = [.ref p, vI s, vI e] ∧ CAt C H p L ∧ Good vt L ∧ s ∈ vt ∧ e ∈ vt ∧ s ≠ e ∧ Path L s e (s :: h :: r) ∧ ∀ H', Ex H H' → Q (vI h) H'
def spBetween (C : Addr) : Sp := fun vs H Q _ => ∃ L vt W p s e, vs = [.ref p, vI s, vI e] ∧ CAt C H p L ∧ Good vt L ∧ s ∈ yardsL L ∧ e ∈ yardsL L ∧ Path L s e W ∧ ∀ q H', Ex H H' → H q = none → H' q = some (.lst (cutV (vIs W) (some 1) (some (-1)))) → Q (.ref q) H'
theorem path_len {vt : List Nat} {L : Lanes} (G : Good vt L) {s e : Nat} {W : List Nat} (hs : s ∈ vt) (he : e ∈ vt) (P : Path L s e W) : W.length ≤ 1001 ∧ ∀ x ∈ W, x < 1024 := by
  have hsm := G.small
  have inV : ∀ x ∈ W, x < L.length + 1 := fun x hx => by
    obtain ⟨p, Pp, kp⟩ := G.tr.conn hs he
    exact (G.vs_ x).mp (kp x (G.tr.unique P Pp ▸ hx))
  refine ⟨?_, fun x hx => by have := inV x hx; omega⟩
  have := nodup_len P.nd (m := List.range 1001) fun x hx => List.mem_range.mpr (by have := inV x hx; omega)
  simpa using this
theorem is_eqN {i j : Nat} : decide (vI i = vI j) = decide (i = j) := by
  by_cases c : i = j
  · subst c
    simp
  · rw [decide_eq_false c, decide_eq_false (fun z => c (by injection z with z; omega))]
end Pr
namespace K15
open PySem PySem.Spec PyProof.Rows L2 TM Pr Ep
open Evl (Ex Ev EvT EvA EvL)
section
variable {P : Program} {w : World} {K : PySem.W.Frag} {mg : Str → Option Value} {base : Heap} {A : Adr}
theorem is_pl {C : Addr} {σ : L2.St} {H : Hp} {ta : TA} {L : Lanes} {p i : Nat} (h : EvA ta σ H [.ref p, vI i]) (hC : CAt C H p L) (hi : i < L.length + 1) : EvT (tB (tCall (spPlace C) [] E0 ta)) σ H true :=
  evt_P (evp_callA h (fun H2 e2 Q q => ⟨L, p, i, rfl, hC.ex e2, fun H3 e3 => q _ H3 e3 (by rw [decide_eq_true hi]; rfl)⟩) (fun _ _ _ _ _ _ _ h => h))
theorem ok_check_place (T : Txt K mg A) : FnOk P w K mg base CX0 4 A.check_place A.check_place_fd ["country", "place"] (spPlaceC A.Country) := by
  refine T.F_check_place.ok sc_check_place (fun vs H Q E h => ?_) (fun cdv A' outer s H vs Q E hr h => ?_)
  · obtain ⟨L, p, i, rfl, _⟩ := h
    rfl
  · obtain ⟨L, p, i, rfl, hC, hi, k⟩ := h
    refine ⟨_, (pss_one (ps_if (pt_not (pt_val (pe_call (ok_is_place T) (hr.mono (by decide)) (by rfl) T.m_is_place T.F_is_place.kp T.b_is_place .nil pass0 (pa_cons (pv 0) (pa_cons (pv 1) pa_nil))))) (pss_one ps_never) pss_nil)), ?_⟩
    exact p_skip1 (Evl.et_is (Evl.et_not (is_pl (Evl.ea_cons (Evl.ev_var rfl) (Evl.ea_cons (Evl.ev_var rfl) Evl.ea_nil)) hC hi)) rfl) fun H1 e1 => k H1 e1
theorem ok_places_along (T : Txt K mg A) : FnOk P w K mg base CX0 2 A.places_along A.places_along_fd ["country", "start", "end"] (spAlong A.Country) := by
  refine T.F_places_along.ok sc_places_along (fun vs H Q E h => ?_) (fun cdv A' outer s H vs Q E hr h => ?_)
  · obtain ⟨L, vt, W, p, st, en, rfl, _⟩ := h
    rfl
  · obtain ⟨L, vt, W, p, st, en, rfl, hC, G, hs, he, P0, k⟩ := h
    refine ⟨_, (pss_cons (ps_set (i := 3) sc_places_along.nd rfl (Or.inl rfl) (pe_lst (pa_cons (pv 1) pa_nil))) (pss_cons (ps_while PassesOwn.never (pt_cmpR op_ne (show PE _ _ (tOp (rIxL K) _ _) from pe_ix ix_list (pv 3) (pe_un un_neg pe_int) (fun _ _ => rfl)) (pv 2) (nomark _)) (pss_one (ps_expr (show PE _ _ (tBM K "list" rAppend _ _) from pe_bm PySem.F.plainAttrs_list PySem.F.slot_list_append PySem.F.type_list_append mt_append (pv 3) (pa_cons (pe_meth (pv 0) T.cl_Country T.me_Country_ahead (ok_Country_ahead T) (hr.mono (by decide)) T.b_Country_ahead .nil pass0 (pa_cons (show PE _ _ (tOp (rIxL K) _ _) from pe_ix ix_list (pv 3) (pe_un un_neg pe_int) (fun _ _ => rfl)) (pa_cons (pv 2) pa_nil))) pa_nil))))) (pss_one (ps_ret (pv 3))))), ?_⟩
    have hwl := (path_len G hs he P0).1
    refine p_asg (P := NewL (vIs [st])) (evp_lst (Evl.ea_cons (Evl.ev_var rfl) Evl.ea_nil) (by show 1 ≤ 100000; decide)) fun v H1 e1 h => ?_
    obtain ⟨q, rfl, fq, hq⟩ := h
    show tSeq (tWhile _ _) _ _ ([some (.ref p), some (vI st), some (vI en), some (.ref q)]) H1
    obtain ⟨W', hW⟩ : ∃ W', W = st :: W' := by
      cases W with
      | nil => have := P0.hd; cases this
      | cons a r => exact ⟨r, by rw [Option.some.inj P0.hd]⟩
    refine Evl.q_while (fun n σ' H' => ∃ pre x rest, σ' = [some (.ref p), some (vI st), some (vI en), some (.ref q)] ∧ Ex H H' ∧ W = pre ++ x :: rest ∧ H' q = some (.lst (vIs (pre ++ [x]))) ∧ n = rest.length) W'.length ⟨[], st, W', rfl, e1, hW, hq, rfl⟩ (fun n σ' H2 h => ?_)
    obtain ⟨pre, x, rest, rfl, e2, eW, hq2, rfl⟩ := h
    have Px : Path L x en (x :: rest) := (eW ▸ P0).cut.2
    have lx : ∀ {σ : L2.St} {H3 : Hp}, σ[3]? = some (some (.ref q)) → H3 q = some (.lst (vIs (pre ++ [x]))) → Ev (tOp (rIxL K) (tVar 3) (tUn (rU fun i => .int (-i)) (tC (.int 1)))) σ H3 (vI x) := fun h1 h2 => Evl.ev_op (Evl.ev_var h1) (Evl.ev_un Evl.ev_c Evl.ru_neg) (Evl.rv_ixL (Evl.sq_of h2) (at_last (by simp)))
    refine ⟨!decide (x = en), Evl.et_is (Evl.et_test (Evl.ev_op (lx rfl hq2) (Evl.ev_var rfl) (Evl.rv_ne rfl))) (by rw [is_eqN]), fun hb H3 e3 => ?_, fun hb H3 e3 => ?_⟩
    · have hne : x ≠ en := fun e => by rw [decide_eq_true e] at hb; cases hb
      cases rest with
      | nil => exact absurd (Option.some.inj Px.lt) hne
      | cons h r =>
        refine ⟨fun σ4 H4 => ∃ pre' x', σ4 = [some (.ref p), some (vI st), some (vI en), some (.ref q)] ∧ Ex H H4 ∧ W = pre' ++ x' :: r ∧ H4 q = some (.lst (vIs (pre' ++ [x']))), fun σ4 H4 ⟨pre', x', a1, a2, a3, a4⟩ => ⟨r.length, by rw [List.length_cons]; omega, pre', x', r, a1, a2, a3, a4, rfl⟩, ?_⟩
        have hq3 := e3 _ _ hq2
        have x3 := e2.trans e3
        have hx : x ∈ vt := (G.tr.ends Px.ch.1).1
        refine Evl.s_app (v := vI h) hq3 (Evl.ev_var rfl) ?_ ?_ fun H4 e4 => ⟨pre ++ [x], h, rfl, Ex.mut (x3.trans e4) fq, by rw [eW]; simp, ?_⟩
        · intro H4 e4 Q' q'
          obtain ⟨dx, l, d, e, yy, g, rs, qs, ho, C⟩ := id (hC.ex (x3.trans e4))
          refine ⟨_, rfl, p, dx, _, rfl, ho, fl_no (by rfl), ?_⟩
          refine lx rfl (e4 _ _ hq3) H4 (Ex.refl _) _ fun H5 e5 => ⟨_, rfl, L, vt, p, x, en, rfl, (hC.ex (x3.trans e4)).ex e5, G, hne, (G.vs_ x).mp hx, (G.vs_ en).mp he, fun h' r' P1 => ?_⟩
          have := G.tr.unique P1 Px
          injection this with _ this
          injection this with this _
          subst this
          exact q' H5 e5
        · have := congrArg List.length eW
          rw [List.length_map]
          simp at this ⊢
          omega
        · rw [upd_same]
          unfold vIs
          simp
    · have hen : x = en := of_decide_eq_true (show decide (x = en) = true by cases h : decide (x = en) with | true => rfl | false => rw [h] at hb; cases hb)
      subst hen
      have := path_one Px
      injection this with _ this
      subst this
      exact ⟨_, rfl, k q H3 (e2.trans e3) (Evl.fresh_back (Ex.refl _) fq) (by rw [e3 _ _ hq2, eW])⟩
theorem ev_chkC {σ : L2.St} {H : Hp} {i : Nat} {D : Ends} {tz : TS} {L : Lanes} {C p : Addr} (hi : σ[i]? = some (some (.ref p))) (hC : CAt C H p L) (k : ∀ H1, Ex H H1 → tz D σ H1) : tSeq (tDrop (tCall (spCheckC C) [] E0 (tCons (tVar i) tNil))) tz D σ H :=
  ⟨_, hi, L, p, rfl, hC, fun H1 e1 => k H1 e1⟩
theorem p_isPl {σ : L2.St} {H : Hp} {D : Ends} {tz tu : TS} {ta : TA} {L : Lanes} {C p : Addr} {i : Nat} (h : EvA ta σ H [.ref p, vI i]) (hC : CAt C H p L) (hi : i < L.length + 1) (k : ∀ H1, Ex H H1 → tz D σ H1) : tSeq (tIfS (tNot (tB (tCall (spPlace C) [] E0 ta))) tu tNext) tz D σ H :=
  p_skip (Evl.et_is (Evl.et_not (is_pl h hC hi)) rfl) k
theorem ev_along {C : Addr} {σ : L2.St} {H : Hp} {ta : TA} {L : Lanes} {vt W : List Nat} {p s e : Nat} (h : EvA ta σ H [.ref p, vI s, vI e]) (hC : CAt C H p L) (G : Good vt L) (hs : s ∈ vt) (he : e ∈ vt) (P : Path L s e W) : EvP (tCall (spAlong C) [] E0 ta) σ H (NewL (vIs W)) :=
  evp_callA h (fun H2 e2 Q q => ⟨L, vt, W, p, s, e, rfl, hC.ex e2, G, hs, he, P, fun q' H3 e3 hq hq' => q _ H3 e3 ⟨q', rfl, hq, hq'⟩⟩) (fun v H1 H2 H3 _ e12 _ h => newL_back e12 h)
theorem ev_long {C : Addr} {σ : L2.St} {H : Hp} {ta : TA} {L : Lanes} {vt W : List Nat} {p s e : Nat} (h : EvA ta σ H [.ref p, vI s, vI e]) (hC : CAt C H p L) (G : Good vt L) (hs : s ∈ vt) (he : e ∈ vt) (P : Path L s e W) : Ev (tCall (spLong C) [] E0 ta) σ H (.int ((W.length : Int) - 1)) :=
  ev_evp (evp_callA h (fun H2 e2 Q q => ⟨L, vt, W, p, s, e, rfl, hC.ex e2, G, hs, he, P, fun H3 e3 => q _ H3 e3 rfl⟩) (fun _ _ _ _ _ _ _ h => h))
theorem ev_nextP {C : Addr} {σ : L2.St} {H : Hp} {ta : TA} {L : Lanes} {vt : List Nat} {p s e h : Nat} {r : List Nat} (ha : EvA ta σ H [.ref p, vI s, vI e]) (hC : CAt C H p L) (G : Good vt L) (hs : s ∈ vt) (he : e ∈ vt) (ne : s ≠ e) (P : Path L s e (s :: h :: r)) : Ev (tCall (spNextP C) [] E0 ta) σ H (vI h) :=
  ev_evp (evp_callA ha (fun H2 e2 Q q => ⟨L, vt, p, s, e, h, r, rfl, hC.ex e2, G, hs, he, ne, P, fun H3 e3 => q _ H3 e3 rfl⟩) (fun _ _ _ _ _ _ _ h => h))
theorem ev_between {C : Addr} {σ : L2.St} {H : Hp} {ta : TA} {L : Lanes} {vt W : List Nat} {p s e : Nat} (h : EvA ta σ H [.ref p, vI s, vI e]) (hC : CAt C H p L) (G : Good vt L) (hs : s ∈ yardsL L) (he : e ∈ yardsL L) (P : Path L s e W) : EvP (tCall (spBetween C) [] E0 ta) σ H (NewL (cutV (vIs W) (some 1) (some (-1)))) :=
  evp_callA h (fun H2 e2 Q q => ⟨L, vt, W, p, s, e, rfl, hC.ex e2, G, hs, he, P, fun q' H3 e3 hq hq' => q _ H3 e3 ⟨q', rfl, hq, hq'⟩⟩) (fun v H1 H2 H3 _ e12 _ h => newL_back e12 h)
theorem va3 {σ : L2.St} {H : Hp} {i j l : Nat} {a b c : V} (h1 : σ[i]? = some (some a)) (h2 : σ[j]? = some (some b)) (h3 : σ[l]? = some (some c)) : EvA (tCons (tVar i) (tCons (tVar j) (tCons (tVar l) tNil))) σ H [a, b, c] := Evl.ea_cons (Evl.ev_var h1) (Evl.ea_cons (Evl.ev_var h2) (Evl.ea_cons (Evl.ev_var h3) Evl.ea_nil))
theorem va2 {σ : L2.St} {H : Hp} {i j : Nat} {a b : V} (h1 : σ[i]? = some (some a)) (h2 : σ[j]? = some (some b)) : EvA (tCons (tVar i) (tCons (tVar j) tNil)) σ H [a, b] := Evl.ea_cons (Evl.ev_var h1) (Evl.ea_cons (Evl.ev_var h2) Evl.ea_nil)
theorem ok_way (T : Txt K mg A) : FnOk P w K mg base CX0 4 A.way A.way_fd ["country", "start", "end"] (spAlong A.Country) := by
  refine T.F_way.ok sc_way (fun vs H Q E h => ?_) (fun cdv A' outer s H vs Q E hr h => ?_)
  · obtain ⟨L, vt, W, p, st, en, rfl, _⟩ := h
    rfl
  · obtain ⟨L, vt, W, p, st, en, rfl, hC, G, hs, he, P0, k⟩ := h
    refine ⟨_, (pss_cons (ps_expr (pe_call (ok_check_country T) (hr.mono (by decide)) (by rfl) T.m_check_country T.F_check_country.kp T.b_check_country .nil pass0 (pa_cons (pv 0) pa_nil))) (pss_cons (ps_if (pt_not (pt_val (pe_call (ok_is_place T) (hr.mono (by decide)) (by rfl) T.m_is_place T.F_is_place.kp T.b_is_place .nil pass0 (pa_cons (pv 0) (pa_cons (pv 1) pa_nil))))) (pss_one ps_never) pss_nil) (pss_cons (ps_if (pt_not (pt_val (pe_call (ok_is_place T) (hr.mono (by decide)) (by rfl) T.m_is_place T.F_is_place.kp T.b_is_place .nil pass0 (pa_cons (pv 0) (pa_cons (pv 2) pa_nil))))) (pss_one ps_never) pss_nil) (pss_one (ps_ret (pe_call (ok_places_along T) (hr.mono (by decide)) (by rfl) T.m_places_along T.F_places_along.kp T.b_places_along .nil pass0 (pa_cons (pv 0) (pa_cons (pv 1) (pa_cons (pv 2) pa_nil))))))))), ?_⟩
    refine ev_chkC rfl hC fun H1 e1 => p_isPl (va2 rfl rfl) (hC.ex e1) ((G.vs_ _).mp hs) fun H2 e2 => p_isPl (va2 rfl rfl) (hC.ex (e1.trans e2)) ((G.vs_ _).mp he) fun H3 e3 => ?_
    refine p_ret (ev_along (va3 rfl rfl rfl) (hC.ex ((e1.trans e2).trans e3)) G hs he P0) fun v H4 e4 h => ?_
    obtain ⟨q, rfl, fq, hq⟩ := h
    exact k q H4 (((e1.trans e2).trans e3).trans e4) (Evl.fresh_back ((e1.trans e2).trans e3) fq) hq
theorem ok_lanes_along (T : Txt K mg A) : FnOk P w K mg base CX0 3 A.lanes_along A.lanes_along_fd ["country", "place", "goal"] (spLong A.Country) := by
  refine T.F_lanes_along.ok sc_lanes_along (fun vs H Q E h => ?_) (fun cdv A' outer s H vs Q E hr h => ?_)
  · obtain ⟨L, vt, W, p, st, en, rfl, _⟩ := h
    rfl
  · obtain ⟨L, vt, W, p, st, en, rfl, hC, G, hs, he, P0, k⟩ := h
    refine ⟨_, (pss_one (ps_ret (pe_op op_sub (show PE _ _ (tCB (rLenA K) _) from (pe_callB (id := "len") call_len (by rfl) T.n_len (by decide +kernel) (pa_cons (pe_call (ok_places_along T) (hr.mono (by decide)) (by rfl) T.m_places_along T.F_places_along.kp T.b_places_along .nil pass0 (pa_cons (pv 0) (pa_cons (pv 1) (pa_cons (pv 2) pa_nil)))) pa_nil))) pe_int))), ?_⟩
    refine p_ret (P := Is (.int ((W.length : Int) - 1))) (evp_ev (Evl.ev_op (Evl.ev_is (ev_lenP ((ev_along (va3 rfl rfl rfl) hC G hs he P0).imp fun v _ _ _ _ ⟨p, r, _, k⟩ => ⟨p, r, k⟩)) (by rw [List.length_map])) Evl.ev_c rv_I0P)) fun v H1 e1 h => ?_
    subst h
    exact k H1 e1
theorem ok_distance (T : Txt K mg A) : FnOk P w K mg base CX0 5 A.distance A.distance_fd ["country", "place", "goal"] (spLong A.Country) := by
  refine T.F_distance.ok sc_distance (fun vs H Q E h => ?_) (fun cdv A' outer s H vs Q E hr h => ?_)
  · obtain ⟨L, vt, W, p, st, en, rfl, _⟩ := h
    rfl
  · obtain ⟨L, vt, W, p, st, en, rfl, hC, G, hs, he, P0, k⟩ := h
    refine ⟨_, (pss_cons (ps_expr (pe_call (ok_check_country T) (hr.mono (by decide)) (by rfl) T.m_check_country T.F_check_country.kp T.b_check_country .nil pass0 (pa_cons (pv 0) pa_nil))) (pss_cons (ps_expr (pe_call (ok_check_place T) (hr.mono (by decide)) (by rfl) T.m_check_place T.F_check_place.kp T.b_check_place .nil pass0 (pa_cons (pv 0) (pa_cons (pv 1) pa_nil)))) (pss_cons (ps_if (pt_not (pt_val (pe_call (ok_is_place T) (hr.mono (by decide)) (by rfl) T.m_is_place T.F_is_place.kp T.b_is_place .nil pass0 (pa_cons (pv 0) (pa_cons (pv 2) pa_nil))))) (pss_one ps_never) pss_nil) (pss_one (ps_ret (pe_call (ok_lanes_along T) (hr.mono (by decide)) (by rfl) T.m_lanes_along T.F_lanes_along.kp T.b_lanes_along .nil pass0 (pa_cons (pv 0) (pa_cons (pv 1) (pa_cons (pv 2) pa_nil))))))))), ?_⟩
    refine ev_chkC rfl hC fun H1 e1 => ⟨_, rfl, _, rfl, L, p, st, rfl, hC.ex e1, (G.vs_ _).mp hs, fun H2 e2 => p_isPl (va2 rfl rfl) (hC.ex (e1.trans e2)) ((G.vs_ _).mp he) fun H3 e3 => ?_⟩
    refine p_ret (evp_ev (ev_long (va3 rfl rfl rfl) (hC.ex ((e1.trans e2).trans e3)) G hs he P0)) fun v H4 e4 h => ?_
    subst h
    exact k H4 (((e1.trans e2).trans e3).trans e4)
theorem ok_next_place (T : Txt K mg A) : FnOk P w K mg base CX0 5 A.next_place A.next_place_fd ["country", "place", "goal"] (spNextP A.Country) := by
  refine T.F_next_place.ok sc_next_place (fun vs H Q E h => ?_) (fun cdv A' outer s H vs Q E hr h => ?_)
  · obtain ⟨L, vt, p, st, en, h, r, rfl, _⟩ := h
    rfl
  · obtain ⟨L, vt, p, st, en, h, r, rfl, hC, G, hs, he, ne, P0, k⟩ := h
    refine ⟨_, (pss_cons (ps_expr (pe_call (ok_check_country T) (hr.mono (by decide)) (by rfl) T.m_check_country T.F_check_country.kp T.b_check_country .nil pass0 (pa_cons (pv 0) pa_nil))) (pss_cons (ps_expr (pe_call (ok_check_place T) (hr.mono (by decide)) (by rfl) T.m_check_place T.F_check_place.kp T.b_check_place .nil pass0 (pa_cons (pv 0) (pa_cons (pv 1) pa_nil)))) (pss_cons (ps_if (PW.pt (pw_or (pt_not (pt_val (pe_call (ok_is_place T) (hr.mono (by decide)) (by rfl) T.m_is_place T.F_is_place.kp T.b_is_place .nil pass0 (pa_cons (pv 0) (pa_cons (pv 2) pa_nil))))) (pw_or1 (pt_cmpR op_eq (pv 2) (pv 1) (nomark _))))) (pss_one ps_never) pss_nil) (pss_one (ps_ret (pe_meth (pv 0) T.cl_Country T.me_Country_ahead (ok_Country_ahead T) (hr.mono (by decide)) T.b_Country_ahead .nil pass0 (pa_cons (pv 1) (pa_cons (pv 2) pa_nil)))))))), ?_⟩
    refine ev_chkC rfl hC fun H1 e1 => ⟨_, rfl, _, rfl, L, p, st, rfl, hC.ex e1, (G.vs_ _).mp hs, fun H2 e2 => ?_⟩
    refine p_skip (Evl.et_or (a := false) (b := false) (Evl.et_is (Evl.et_not (is_pl (va2 rfl rfl) (hC.ex (e1.trans e2)) ((G.vs_ _).mp he))) rfl) fun _ => Evl.et_is (Evl.et_test (Evl.ev_op (x := vI en) (y := vI st) (Evl.ev_var rfl) (Evl.ev_var rfl) (Evl.rv_eq rfl))) (by rw [is_eqN]; exact decide_eq_false fun z => ne z.symm)) fun H3 e3 => ?_
    have x3 := (e1.trans e2).trans e3
    obtain ⟨dx, l, d, e, yy, g, rs, qs, ho, C⟩ := id (hC.ex x3)
    refine ⟨_, rfl, p, dx, _, rfl, ho, fl_no (by rfl), _, rfl, _, rfl, L, vt, p, st, en, rfl, hC.ex x3, G, ne, (G.vs_ _).mp hs, (G.vs_ _).mp he, fun h' r' P1 => ?_⟩
    have := G.tr.unique P1 P0
    injection this with _ this
    injection this with this _
    subst this
    exact k H3 x3
end
end K15
set_option linter.all false
/-! a country with other numbers. Plain Lean. -/
namespace TM
section
variable {vs : List Nat} {L : Lanes} {f : Nat → Nat}
theorem adj_ren {a b : Nat} : Adj (ren f L) a b ↔ ∃ x y, Adj L x y ∧ f x = a ∧ f y = b := by
  have one : ∀ {a b : Nat}, (a, b) ∈ ren f L ↔ ∃ x y, (x, y) ∈ L ∧ f x = a ∧ f y = b := by
    intro a b
    unfold ren
    rw [List.mem_map]
    constructor
    · rintro ⟨⟨x, y⟩, h, e⟩
      injection e with e1 e2
      exact ⟨x, y, h, e1, e2⟩
    · rintro ⟨x, y, h, e1, e2⟩
      exact ⟨(x, y), h, by rw [e1, e2]⟩
  unfold Adj
  rw [one, one]
  constructor
  · rintro (⟨x, y, h, e1, e2⟩ | ⟨x, y, h, e1, e2⟩)
    · exact ⟨x, y, .inl h, e1, e2⟩
    · exact ⟨y, x, .inr h, e2, e1⟩
  · rintro ⟨x, y, h | h, e1, e2⟩
    · exact .inl ⟨x, y, h, e1, e2⟩
    · exact .inr ⟨y, x, h, e2, e1⟩
theorem Chain.ren : ∀ {W : List Nat}, Chain L W → Chain (TM.ren f L) (W.map f)
  | [], _ => trivial
  | [_], _ => trivial
  | x :: y :: r, h => ⟨adj_ren.mpr ⟨x, y, h.1, rfl, rfl⟩, Chain.ren (W := y :: r) h.2⟩
theorem Path.ren (inj : ∀ a ∈ vs, ∀ b ∈ vs, f a = f b → a = b) {s t : Nat} {W : List Nat} (P : Path L s t W) (h : ∀ x ∈ W, x ∈ vs) : Path (TM.ren f L) (f s) (f t) (W.map f) where
  ch := P.ch.ren
  nd := List.pairwise_map.mpr (List.Pairwise.imp_of_mem (fun {a b} ha hb n e => n (inj a (h a ha) b (h b hb) e)) P.nd)
  hd := by rw [List.head?_map, P.hd]; rfl
  lt := by rw [List.getLast?_map, P.lt]; rfl
theorem unren (ends : ∀ {a b : Nat}, Adj L a b → a ∈ vs ∧ b ∈ vs) (inj : ∀ a ∈ vs, ∀ b ∈ vs, f a = f b → a = b) : ∀ {V : List Nat} {s : Nat}, s ∈ vs → Chain (TM.ren f L) (f s :: V) → ∃ W, V = W.map f ∧ Chain L (s :: W) ∧ ∀ x ∈ W, x ∈ vs
  | [], s, _, _ => ⟨[], rfl, trivial, fun _ h => nomatch h⟩
  | b :: V, s, hs, h => by
    obtain ⟨x, y, a, e1, e2⟩ := adj_ren.mp h.1
    have := inj x (ends a).1 s hs e1
    subst this
    obtain ⟨W, e, c, k⟩ := unren ends inj (V := V) (s := y) (ends a).2 (by rw [e2]; exact h.2)
    refine ⟨y :: W, by rw [List.map_cons, ← e, e2], ⟨a, c⟩, fun z hz => ?_⟩
    rcases List.mem_cons.mp hz with e | hz
    · exact e ▸ (ends a).2
    · exact k z hz
theorem inj_list (inj : ∀ a ∈ vs, ∀ b ∈ vs, f a = f b → a = b) {W : List Nat} (h : ∀ x ∈ W, x ∈ vs) (nd : (W.map f).Nodup) : W.Nodup := by
  have := List.pairwise_map.mp nd
  exact this.imp fun n e => n (congrArg f e)
theorem Path.unren (ends : ∀ {a b : Nat}, Adj L a b → a ∈ vs ∧ b ∈ vs) (inj : ∀ a ∈ vs, ∀ b ∈ vs, f a = f b → a = b) {s b : Nat} {V : List Nat} (hs : s ∈ vs) (P : Path (TM.ren f L) (f s) b V) : ∃ W t, V = W.map f ∧ b = f t ∧ t ∈ vs ∧ Path L s t W ∧ ∀ x ∈ W, x ∈ vs := by
  cases V with
  | nil => have := P.hd; cases this
  | cons a V =>
    have e : a = f s := Option.some.inj P.hd
    subst e
    obtain ⟨W, e, c, k⟩ := TM.unren ends inj hs P.ch
    have ks : ∀ x ∈ s :: W, x ∈ vs := fun x hx => by
      rcases List.mem_cons.mp hx with e | hx
      · exact e ▸ hs
      · exact k x hx
    have eV : f s :: V = (s :: W).map f := by rw [List.map_cons, ← e]
    obtain ⟨t, ht⟩ : ∃ t, (s :: W).getLast? = some t := by
      cases h : (s :: W).getLast? with
      | none => simp at h
      | some t => exact ⟨t, rfl⟩
    have lt := P.lt
    rw [eV, List.getLast?_map, ht] at lt
    refine ⟨s :: W, t, eV, (Option.some.inj lt).symm, ks t (List.mem_of_getLast? ht), ⟨c, inj_list inj ks (eV ▸ P.nd), rfl, ht⟩, ks⟩
theorem Tr.ren (G : Tr vs L) (inj : ∀ a ∈ vs, ∀ b ∈ vs, f a = f b → a = b) (off : ∀ i, i ∉ vs.map f → nb (TM.ren f L) i = []) : Tr (vs.map f) (TM.ren f L) where
  ends := fun {a b} h => by
    obtain ⟨x, y, k, e1, e2⟩ := adj_ren.mp h
    exact ⟨List.mem_map.mpr ⟨x, (G.ends k).1, e1⟩, List.mem_map.mpr ⟨y, (G.ends k).2, e2⟩⟩
  irrefl := fun {a} h => by
    obtain ⟨x, y, k, e1, e2⟩ := adj_ren.mp h
    have := inj x (G.ends k).1 y (G.ends k).2 (e1.trans e2.symm)
    exact G.irrefl (this ▸ k)
  unique := fun {s t p q} P Q => by
    by_cases h : s ∈ vs.map f
    · obtain ⟨x, hx, e⟩ := List.mem_map.mp h
      subst e
      obtain ⟨W, u, e1, e2, hu, PW, _⟩ := P.unren G.ends inj hx
      obtain ⟨W', u', e1', e2', hu', PW', _⟩ := Q.unren G.ends inj hx
      have := inj u hu u' hu' (e2.symm.trans e2')
      subst this
      rw [e1, e1', G.unique PW PW']
    · have alone : ∀ {p : List Nat}, Path (TM.ren f L) s t p → p = [s] := fun {p} P => by
        cases p with
        | nil => have := P.hd; cases this
        | cons a p =>
          have e : a = s := Option.some.inj P.hd
          subst e
          cases p with
          | nil => rfl
          | cons b p =>
            obtain ⟨x, y, k, e1, _⟩ := adj_ren.mp P.ch.1
            exact absurd (List.mem_map.mpr ⟨x, (G.ends k).1, e1⟩) h
      rw [alone P, alone Q]
  conn := fun {s t} hs ht => by
    obtain ⟨x, hx, e1⟩ := List.mem_map.mp hs
    obtain ⟨y, hy, e2⟩ := List.mem_map.mp ht
    obtain ⟨p, P, k⟩ := G.conn hx hy
    subst e1; subst e2
    exact ⟨p.map f, P.ren inj k, fun z hz => by
      obtain ⟨u, hu, e⟩ := List.mem_map.mp hz
      exact List.mem_map.mpr ⟨u, k u hu, e⟩⟩
  nbnd := fun i => by
    by_cases h : i ∈ vs.map f
    · obtain ⟨x, hx, e⟩ := List.mem_map.mp h
      subst e
      rw [nb_ren (vs := vs) (fun p hp => G.ends (.inl hp)) inj hx]
      exact List.pairwise_map.mpr (List.Pairwise.imp_of_mem (fun {a b} ha hb n e => n (inj a (G.ends (mem_nb.mp ha)).2 b (G.ends (mem_nb.mp hb)).2 e)) (G.nbnd x))
    · rw [off i h]
      exact List.nodup_nil
  length := by rw [List.length_map, G.length]; unfold TM.ren; rw [List.length_map]
  nodup := List.pairwise_map.mpr (List.Pairwise.imp_of_mem (fun {a b} ha hb n e => n (inj a ha b hb e)) G.nodup)
theorem nb_off (ends : ∀ {a b : Nat}, Adj L a b → a ∈ vs ∧ b ∈ vs) {i : Nat} (h : i ∉ vs.map f) : nb (ren f L) i = [] := by
  cases e : nb (ren f L) i with
  | nil => rfl
  | cons y r =>
    have m : y ∈ nb (ren f L) i := by rw [e]; exact List.mem_cons_self
    obtain ⟨x, z, k, e1, _⟩ := adj_ren.mp (mem_nb.mp m)
    exact absurd (List.mem_map.mpr ⟨x, (ends k).1, e1⟩) h
theorem ren_len : (ren f L).length = L.length := by unfold ren; rw [List.length_map]
theorem ren_adj (G : Tr vs L) (inj : ∀ a ∈ vs, ∀ b ∈ vs, f a = f b → a = b) {i : Nat} (hi : i ∈ vs) : adj (ren f L) (f i) = isort ((adj L i).map f) := by
  unfold adj
  rw [nb_ren (vs := vs) (fun p hp => G.ends (.inl hp)) inj hi]
  exact isort_congr ((isort_perm (nb L i)).map f).symm
/-- numbers for all places, each once -/
structure Num (L : Lanes) (f : Nat → Nat) : Prop where
  lt : ∀ i, i < L.length + 1 → f i < L.length + 1
  inj : ∀ i j, i < L.length + 1 → j < L.length + 1 → f i = f j → i = j
theorem Num.on (m : Num L f) (G : Good vs L) : ∀ a ∈ vs, ∀ b ∈ vs, f a = f b → a = b := fun a ha b hb => m.inj a b ((G.vs_ a).mp ha) ((G.vs_ b).mp hb)
theorem yards_ren (m : Num L f) (G : Good vs L) (on : ∀ v, v ∈ vs.map f ↔ v < L.length + 1) : (yardsL (ren f L)).Perm ((yardsL L).map f) := by
  have inj := m.on G
  have nd : ((yardsL L).map f).Nodup := List.pairwise_map.mpr (List.Pairwise.imp_of_mem (fun {a b} ha hb n e => n (inj a (yard_vs G ha) b (yard_vs G hb) e)) (yards_nodup L))
  refine (List.perm_ext_iff_of_nodup (yards_nodup _) nd).mpr fun u => ?_
  rw [mem_yards, ren_len]
  have ends : ∀ p ∈ L, p.1 ∈ vs ∧ p.2 ∈ vs := fun p hp => G.tr.ends (.inl hp)
  constructor
  · rintro ⟨h1, h2⟩
    obtain ⟨x, hx, e⟩ := List.mem_map.mp ((on u).mpr h1)
    subst e
    rw [nb_ren (vs := vs) ends inj hx, List.length_map] at h2
    exact List.mem_map.mpr ⟨x, mem_yards.mpr ⟨(G.vs_ x).mp hx, h2⟩, rfl⟩
  · intro h
    obtain ⟨x, hx, e⟩ := List.mem_map.mp h
    subst e
    obtain ⟨h1, h2⟩ := mem_yards.mp hx
    have hv := (G.vs_ x).mpr h1
    refine ⟨(on _).mp (List.mem_map.mpr ⟨x, hv, rfl⟩), ?_⟩
    rw [nb_ren (vs := vs) ends inj hv, List.length_map]
    exact h2
theorem Num.all (m : Num L f) (G : Good vs L) : ∀ v, v ∈ vs.map f ↔ v < L.length + 1 := by
  have sub : ∀ v ∈ vs.map f, v ∈ List.range (L.length + 1) := fun v hv => by
    obtain ⟨x, hx, e⟩ := List.mem_map.mp hv
    exact List.mem_range.mpr (e ▸ m.lt x ((G.vs_ x).mp hx))
  have nd : (vs.map f).Nodup := List.pairwise_map.mpr (List.Pairwise.imp_of_mem (fun {a b} ha hb n e => n (m.on G a ha b hb e)) G.tr.nodup)
  refine fun v => ⟨fun h => List.mem_range.mp (sub v h), fun h => ?_⟩
  by_cases c : v ∈ vs.map f
  · exact c
  · have := nodup_len (List.nodup_cons.mpr ⟨c, nd⟩) (m := List.range (L.length + 1)) fun x hx => by
      rcases List.mem_cons.mp hx with e | hx
      · rw [e]
        exact List.mem_range.mpr h
      · exact sub x hx
    rw [List.length_cons, List.length_map, G.tr.length, List.length_range] at this
    omega
/-- THE COUNTRY WITH OTHER NUMBERS IS ONE -/
theorem Good.ren (G : Good vs L) (m : Num L f) : Good (vs.map f) (TM.ren f L) where
  tr := G.tr.ren (m.on G) fun i h => nb_off G.tr.ends h
  vs_ := fun v => by rw [ren_len]; exact m.all G v
  deg := fun i => by
    by_cases h : i ∈ vs.map f
    · obtain ⟨x, hx, e⟩ := List.mem_map.mp h
      subst e
      rw [ren_adj G.tr (m.on G) hx, isort_length, List.length_map]
      exact G.deg x
    · unfold adj
      rw [nb_off G.tr.ends h]
      exact Nat.zero_le _
  least := by rw [(yards_ren m G (m.all G)).length_eq, List.length_map]; exact G.least
  most := by rw [(yards_ren m G (m.all G)).length_eq, List.length_map]; exact G.most
  small := by rw [ren_len]; exact G.small
end
end TM
set_option linter.all false
/-! other numbers, once more: what is led. Plain Lean. -/
namespace TM
section
variable {vs : List Nat} {L M : Lanes} {f g : Nat → Nat}
theorem norm_ren_norm (f : Nat → Nat) (L : Lanes) : norm (ren f (norm L)) = norm (ren f L) := by
  unfold norm ren
  rw [List.map_map, List.map_map, List.map_map]
  refine List.map_congr_left fun p _ => ?_
  show norm1 (f (min p.1 p.2), f (max p.1 p.2)) = norm1 (f p.1, f p.2)
  unfold norm1
  by_cases h : p.1 ≤ p.2
  · rw [Nat.min_eq_left h, Nat.max_eq_right h]
  · have h2 : p.2 ≤ p.1 := by omega
    rw [Nat.min_eq_right h2, Nat.max_eq_left h2]
    simp only [Nat.min_comm, Nat.max_comm]
theorem ren_perm (h : L.Perm M) : (ren f L).Perm (ren f M) := h.map _
theorem norm_perm (h : L.Perm M) : (norm L).Perm (norm M) := h.map _
/-- the same lanes, otherwise told -/
def Same (L M : Lanes) : Prop := (norm L).Perm (norm M)
instance : Decidable (Same L M) := inferInstanceAs (Decidable ((norm L).Perm (norm M)))
theorem Same.refl (L : Lanes) : Same L L := List.Perm.refl _
theorem Same.symm (h : Same L M) : Same M L := List.Perm.symm h
theorem Same.nb (h : Same L M) (i : Nat) : (nb L i).Perm (nb M i) := (nb_norm L i).symm.trans ((nb_perm h i).trans (nb_norm M i))
theorem Same.len (h : Same L M) : L.length = M.length := by
  have := List.Perm.length_eq h
  unfold norm at this
  rw [List.length_map, List.length_map] at this
  exact this
theorem norm_norm (L : Lanes) : norm (norm L) = norm L := by
  unfold norm
  rw [List.map_map]
  refine List.map_congr_left fun p _ => ?_
  show norm1 (norm1 p) = norm1 p
  unfold norm1
  simp only
  rw [Nat.min_eq_left (by omega), Nat.max_eq_right (by omega)]
theorem same_of (h : M.Perm (norm L)) : Same M L := by
  have := norm_perm h
  rw [norm_norm] at this
  exact this
theorem same_ren (h : M.Perm (norm L)) : Same (ren f M) (ren f L) := by
  have := norm_perm (ren_perm (f := f) h)
  rw [norm_ren_norm] at this
  exact this
theorem lex_eq {M1 M2 N1 N2 : Lanes} (p1 : M1.Perm N1) (s1 : LexS M1) (p2 : M2.Perm N2) (s2 : LexS M2) : M1 = M2 ↔ N1.Perm N2 :=
  ⟨fun e => p1.symm.trans (e ▸ p2), fun h => lex_unique (p1.trans (h.trans p2.symm)) s1 s2⟩
theorem gates_nodup (L : Lanes) : (gatesL L).Nodup := List.nodup_range.filter _
theorem gates_sorted (L : Lanes) : (gatesL L).Pairwise (· ≤ ·) := by
  unfold gatesL
  refine List.Pairwise.filter _ ?_
  exact List.pairwise_lt_range.imp fun h => Nat.le_of_lt h
theorem mem_gates {u : Nat} : u ∈ gatesL L ↔ u < L.length + 1 ∧ (nb L u).length = 1 := by
  unfold gatesL
  rw [List.mem_filter, List.mem_range, decide_eq_true_iff, adj_length]
theorem gates_ren (m : Num L f) (G : Good vs L) (on : ∀ v, v ∈ vs.map f ↔ v < L.length + 1) : (gatesL (ren f L)).Perm ((gatesL L).map f) := by
  have inj := m.on G
  have gv : ∀ {u : Nat}, u ∈ gatesL L → u ∈ vs := fun h => (G.vs_ _).mpr (mem_gates.mp h).1
  have nd : ((gatesL L).map f).Nodup := List.pairwise_map.mpr (List.Pairwise.imp_of_mem (fun {a b} ha hb n e => n (inj a (gv ha) b (gv hb) e)) (gates_nodup L))
  refine (List.perm_ext_iff_of_nodup (gates_nodup _) nd).mpr fun u => ?_
  rw [mem_gates, ren_len]
  have ends : ∀ p ∈ L, p.1 ∈ vs ∧ p.2 ∈ vs := fun p hp => G.tr.ends (.inl hp)
  constructor
  · rintro ⟨h1, h2⟩
    obtain ⟨x, hx, e⟩ := List.mem_map.mp ((on u).mpr h1)
    subst e
    rw [nb_ren (vs := vs) ends inj hx, List.length_map] at h2
    exact List.mem_map.mpr ⟨x, mem_gates.mpr ⟨(G.vs_ x).mp hx, h2⟩, rfl⟩
  · intro h
    obtain ⟨x, hx, e⟩ := List.mem_map.mp h
    subst e
    obtain ⟨h1, h2⟩ := mem_gates.mp hx
    have hv := (G.vs_ x).mpr h1
    refine ⟨(on _).mp (List.mem_map.mpr ⟨x, hv, rfl⟩), ?_⟩
    rw [nb_ren (vs := vs) ends inj hv, List.length_map]
    exact h2
theorem yards_led (m : Num L f) (G : Good vs L) : isort ((yardsL L).map f) = yardsL (ren f L) :=
  (isort_eq (yards_ren m G (m.all G)) (yards_sorted _)).symm
theorem gates_led (m : Num L f) (G : Good vs L) : isort ((gatesL L).map f) = gatesL (ren f L) :=
  (isort_eq (gates_ren m G (m.all G)) (gates_sorted _)).symm
theorem ren_in {x : Nat} (m : Num L f) (G : Good vs L) (hx : x ∈ vs) : f x ∈ vs.map f := List.mem_map.mpr ⟨x, hx, rfl⟩
theorem path_led (m : Num L f) (G : Good vs L) {s t : Nat} {W : List Nat} (hs : s ∈ vs) (ht : t ∈ vs) (P : Path L s t W) : Path (ren f L) (f s) (f t) (W.map f) := by
  obtain ⟨q, Q, k⟩ := G.tr.conn hs ht
  have := G.tr.unique P Q
  subst this
  exact P.ren (m.on G) k
theorem yard_led (m : Num L f) (G : Good vs L) {y : Nat} (h : y ∈ yardsL L) : f y ∈ yardsL (ren f L) :=
  (yards_ren m G (m.all G)).mem_iff.mpr (List.mem_map.mpr ⟨y, h, rfl⟩)
theorem adj_led (m : Num L f) (G : Good vs L) {y t : Nat} (h : t ∈ adj L y) : f t ∈ adj (ren f L) (f y) := mem_adj.mpr (adj_ren.mpr ⟨y, t, mem_adj.mp h, rfl, rfl⟩)
theorem bh_led (m : Num L f) (G : Good vs L) {N N' : Nat → Nat → Nat} (I : IsNext vs L N) (I' : IsNext (vs.map f) (ren f L) N') {y t : Nat} (hy : y ∈ yardsL L) (ht : t ∈ adj L y) :
    isort ((bh L N y t).map f) = bh (ren f L) N' (f y) (f t) := by
  have inj := m.on G
  have G' := G.ren m
  have be : ∀ {u : Nat}, u ∈ yardsL L → beh N' (f y) (f t) (f u) = beh N y t u := fun {u} hu => by
    unfold beh
    by_cases c : u = y
    · subst c
      simp
    · have hyv := yard_vs G hy
      have huv := yard_vs G hu
      obtain ⟨r, P⟩ := I u y huv hyv (fun e => c e.symm)
      have P' := path_led m G hyv huv P
      have e := next_of G'.tr I' (h := f (N u y)) (r := r.map f) P'
      rw [e]
      have c' : ¬ f u = f y := fun z => c (inj u huv y hyv z)
      rw [decide_eq_false c, decide_eq_false c']
      have hn : N u y ∈ vs := (G.tr.ends P.ch.1).2
      have htv := adj_vs G ht
      congr 2
      exact decide_eq_decide.mpr ⟨fun z => inj _ hn _ htv z, fun z => congrArg f z⟩
  refine ((isort_eq ?_ ?_)).symm
  · have nd : ((bh L N y t).map f).Nodup := List.pairwise_map.mpr (List.Pairwise.imp_of_mem (fun {a b} ha hb n e => n (inj a (yard_vs G (mem_bh.mp ha).1) b (yard_vs G (mem_bh.mp hb).1) e)) (bh_nodup y t))
    refine (List.perm_ext_iff_of_nodup (bh_nodup _ _) nd).mpr fun u => ?_
    rw [mem_bh]
    constructor
    · rintro ⟨h1, h2⟩
      obtain ⟨x, hx, e⟩ := List.mem_map.mp ((yards_ren m G (m.all G)).mem_iff.mp h1)
      subst e
      rw [be hx] at h2
      exact List.mem_map.mpr ⟨x, mem_bh.mpr ⟨hx, h2⟩, rfl⟩
    · intro h
      obtain ⟨x, hx, e⟩ := List.mem_map.mp h
      subst e
      obtain ⟨h1, h2⟩ := mem_bh.mp hx
      exact ⟨yard_led m G h1, by rw [be h1]; exact h2⟩
  · exact (yards_sorted _).filter _
theorem Mixed.num {ps : List Nat} (m : Mixed (L.length + 1) ps) : Num L (fun i => ps.getD i 0) where
  lt := fun i hi => m.lt (List.mem_of_getElem? (getD_at (by rw [m.len]; exact hi)))
  inj := fun i j hi hj e => m.inj hi hj e
theorem ren_congr {f g : Nat → Nat} (h : ∀ p ∈ L, f p.1 = g p.1 ∧ f p.2 = g p.2) : ren f L = ren g L := by
  unfold ren
  exact List.map_congr_left fun p hp => by rw [(h p hp).1, (h p hp).2]
theorem ren_ren (f g : Nat → Nat) (L : Lanes) : ren g (ren f L) = ren (fun i => g (f i)) L := by
  unfold ren
  rw [List.map_map]
  rfl
theorem ren_id (h : ∀ p ∈ L, f p.1 = p.1 ∧ f p.2 = p.2) : ren f L = L := by
  have := ren_congr (L := L) (f := f) (g := fun i => i) h
  rw [this]
  unfold ren
  exact List.map_id' L
theorem Good.lt (G : Good vs L) {p : Nat × Nat} (hp : p ∈ L) : p.1 < L.length + 1 ∧ p.2 < L.length + 1 :=
  ⟨(G.vs_ _).mp (G.tr.ends (.inl hp)).1, (G.vs_ _).mp (G.tr.ends (.inl hp)).2⟩
theorem getD_map {l : List Nat} {g : Nat → Nat} {i : Nat} (h : i < l.length) : (l.map g).getD i 0 = g (l.getD i 0) := by
  rw [List.getD_eq_getElem?_getD, List.getElem?_map, List.getElem?_eq_getElem h, List.getD_eq_getElem?_getD, List.getElem?_eq_getElem h]
  rfl
theorem getD_range {n i : Nat} (h : i < n) : (List.range n).getD i 0 = i := by
  rw [List.getD_eq_getElem?_getD, List.getElem?_range h]
  rfl
theorem Mixed.range (n : Nat) : Mixed n (List.range n) := ⟨by simp, List.Perm.refl _⟩
theorem mixed_of {n : Nat} {ps : List Nat} (hl : ps.length = n) (nd : ps.Nodup) (hs : ∀ x ∈ ps, x < n) : Mixed n ps := by
  refine ⟨hl, ?_⟩
  refine (List.perm_ext_iff_of_nodup nd List.nodup_range).mpr fun x => ⟨fun h => List.mem_range.mpr (hs x h), fun h => ?_⟩
  by_cases c : x ∈ ps
  · exact c
  · have := nodup_len (List.nodup_cons.mpr ⟨c, nd⟩) (m := List.range n) fun y hy => by
      rcases List.mem_cons.mp hy with e | hy
      · rw [e]
        exact h
      · exact List.mem_range.mpr (hs y hy)
    rw [List.length_cons, hl, List.length_range] at this
    omega
/-- one renaming behind another one -/
theorem Mixed.comp {n : Nat} {ps ms : List Nat} (m : Mixed n ps) (k : Mixed n ms) : Mixed n (ps.map fun x => ms.getD x 0) := by
  refine mixed_of (by rw [List.length_map, m.len]) ?_ fun x hx => ?_
  · exact List.pairwise_map.mpr (List.Pairwise.imp_of_mem (fun {a b} ha hb ne e => ne (k.inj (m.lt ha) (m.lt hb) e)) m.nd)
  · obtain ⟨y, hy, e⟩ := List.mem_map.mp hx
    subst e
    exact k.lt (List.mem_of_getElem? (getD_at (by rw [k.len]; exact m.lt hy)))
theorem ren_comp (G : Good vs L) {ps ms : List Nat} (m : Mixed (L.length + 1) ps) : ren (fun i => ms.getD i 0) (ren (fun i => ps.getD i 0) L) = ren (fun i => (ps.map fun x => ms.getD x 0).getD i 0) L := by
  rw [ren_ren]
  refine ren_congr fun p hp => ?_
  have := G.lt hp
  exact ⟨(getD_map (g := fun x => ms.getD x 0) (by rw [m.len]; exact this.1)).symm, (getD_map (g := fun x => ms.getD x 0) (by rw [m.len]; exact this.2)).symm⟩
/-- two exchanged -/
theorem swapped {n i j : Nat} (hi : i < n) (hj : j < n) : Mixed n (((List.range n).set i j).set j i) := by
  have at_ : ∀ k, k < n → (((List.range n).set i j).set j i)[k]? = some (if j = k then i else if i = k then j else k) := fun k hk => by
    rw [List.getElem?_set, List.getElem?_set, List.length_set, List.length_range, List.getElem?_range hk]
    by_cases a : j = k
    · rw [if_pos a, if_pos a, if_pos hj]
    · rw [if_neg a, if_neg a]
      by_cases b : i = k
      · rw [if_pos b, if_pos b, if_pos hi]
      · rw [if_neg b, if_neg b]
  have hl : (((List.range n).set i j).set j i).length = n := by rw [List.length_set, List.length_set, List.length_range]
  refine mixed_of hl ?_ fun x hx => ?_
  · refine List.pairwise_iff_getElem.mpr fun a b ha hb hab e => ?_
    have h1 := at_ a (by omega)
    have h2 := at_ b (by omega)
    rw [List.getElem?_eq_getElem ha] at h1
    rw [List.getElem?_eq_getElem hb, ← e] at h2
    have h := (Option.some.inj h1).symm.trans (Option.some.inj h2)
    split at h <;> split at h <;> (try split at h) <;> (try split at h) <;> omega
  · obtain ⟨k, hk, e⟩ := List.mem_iff_getElem.mp hx
    have h1 := at_ k (by omega)
    rw [List.getElem?_eq_getElem hk, e] at h1
    have := Option.some.inj h1
    split at this <;> (try split at this) <;> omega
/-- the numbers turned about -/
theorem Mixed.back {n : Nat} {ps : List Nat} (m : Mixed n ps) : Mixed n ((List.range n).map fun k => ps.idxOf k) ∧ ∀ i, i < n → ((List.range n).map fun k => ps.idxOf k).getD (ps.getD i 0) 0 = i := by
  have mem : ∀ k, k < n → k ∈ ps := fun k hk => m.perm.mem_iff.mpr (List.mem_range.mpr hk)
  have il : ∀ k, k < n → ps.idxOf k < n := fun k hk => by rw [← m.len]; exact List.idxOf_lt_length_of_mem (mem k hk)
  have ia : ∀ k, k < n → ps.getD (ps.idxOf k) 0 = k := fun k hk => by
    rw [List.getD_eq_getElem?_getD, List.getElem?_eq_getElem (by rw [m.len]; exact il k hk), List.getElem_idxOf]
    rfl
  refine ⟨mixed_of (by simp) ?_ fun x hx => ?_, fun i hi => ?_⟩
  · refine List.pairwise_map.mpr (List.Pairwise.imp_of_mem (fun {a b} ha hb ne e => ne ?_) List.nodup_range)
    rw [← ia a (List.mem_range.mp ha), ← ia b (List.mem_range.mp hb), e]
  · obtain ⟨k, hk, e⟩ := List.mem_map.mp hx
    exact e ▸ il k (List.mem_range.mp hk)
  · have hx : ps.getD i 0 < n := m.lt (List.mem_of_getElem? (getD_at (by rw [m.len]; exact hi)))
    rw [getD_map (by rw [List.length_range]; exact hx), getD_range hx]
    exact m.inj (il _ hx) hi (ia _ hx)
theorem ren_back (G : Good vs L) {ps : List Nat} (m : Mixed (L.length + 1) ps) : ren (fun i => ((List.range (L.length + 1)).map fun k => ps.idxOf k).getD i 0) (ren (fun i => ps.getD i 0) L) = L := by
  rw [ren_ren]
  exact ren_id fun p hp => ⟨m.back.2 _ (G.lt hp).1, m.back.2 _ (G.lt hp).2⟩
theorem ren_range (G : Good vs L) : ren (fun i => (List.range (L.length + 1)).getD i 0) L = L :=
  ren_id fun p hp => ⟨getD_range (G.lt hp).1, getD_range (G.lt hp).2⟩
end
end TM
set_option Elab.async false
set_option linter.all false
set_option maxRecDepth 100000
set_option maxHeartbeats 4000000
/-! a == b of two objects of a class with its own __eq__, whatever it answers -/
namespace G9
open PySem PySem.Spec PyProof.Rows L2
def rOwnEq (C : Addr) (sp : Sp) (E : XK) : R2 := fun x y H Q => ∃ a b dx dy fs gs, x = .ref a ∧ y = .ref b ∧ H a = some (.ins C dx fs) ∧ H b = some (.ins C dy gs) ∧ sp [.ref a, .ref b] H (fun v H' => ∃ k, v = .bl k ∧ Q (.bl k) H') E
theorem op_ownEq {X : Cx} {CX : CXT} {C f : Addr} {fd : FuncData} {ps : List Str} {sp : Sp} {E : XK} {n : Nat} (F : FnOk X.prog X.w X.K X.mg X.base CX n f fd ps sp)
    (found : PySem.W.findIn X.K (.ref C) "__eq__" = some (some (.ref f))) (isF : PySem.W.isFn X.K (.ref f) = true) (bind : Binds X.K fd ps []) (room : Room n X.A) (pass : Passes CX X E) : OpR X (compareOp .Eq) (rOwnEq C sp E) := by
  intro pins s σ H x y v u Q I rx ry hq
  obtain ⟨a, b, dx, dy, fs, gs, rfl, rfl, ha, hb, say⟩ := hq
  obtain rfl : v = Value.ref a := rx
  obtain rfl : u = Value.ref b := ry
  show wpAny (model X.prog X.w) X.A (richCompare .Eq (.ref a) (.ref b)) (EP X pins σ Q) X.xe s
  obtain ⟨_, at1, _⟩ := ins_get I.hok ha
  obtain ⟨_, at2, _⟩ := ins_get I.hok hb
  obtain ⟨_, at1, _⟩ := at1.look
  obtain ⟨_, at2, _⟩ := at2.look
  obtain ⟨_, frame⟩ := I.fr
  refine PySem.W.cmp_K (op := .Eq) (tb := .ref C) room.units0 frame I.ok.mod.kin at1 at2.type (by simp [PySem.W.notFirst]) found isF ?_
  have many := F.len _ _ _ _ say
  have two : Vals [V.ref a, V.ref b] [Value.ref a, Value.ref b] := .cons rfl (.cons rfl .nil)
  have bound := bind s [.ref a, .ref b] I.kIn (by simpa using many)
  rw [List.append_nil] at bound
  refine wpAny_call (codeAny_mono (F.run X.A X.stack s H ⟨[.ref a, .ref b], []⟩ [.ref a, .ref b] [.ref a, .ref b] _ E room I.env0 bound two say) fun r t done => ?_)
  match r, done with
  | .ok (.ret z), done =>
    obtain ⟨v2, H2, J, rel, k, e, q⟩ := I.after done
    subst e
    cases rel
    exact ⟨.bl k, H2, J, rfl, q⟩
  | .error e, done => exact pass pins σ H s e t I done
  | .ok .next, done => exact done.elim
  | .ok .brk, done => exact done.elim
  | .ok .cont, done => exact done.elim
section
variable {M : Model} {prog : Program} {w : World} {A : Around} {E : Value → Shared → Prop} {s : Shared} {K : PySem.W.Frag} {x C f : Addr} {ox : Obj} {od : Option Obj} {y : Value}
/-- the answer turned about by object.__ne__ -/
theorem ne_body (room : A.units < cLine) (KX : K.In s.heap) (I : PySem.W.InstAt s.heap x ox C od) (found : PySem.W.findIn K (.ref C) "__eq__" = some (some (.ref f))) (isF : PySem.W.isFn K (.ref f) = true) {Q : Fin → Shared → Prop}
    (h : wpAny M A (call (.ref f) [.ref x, y]) (fun v t => ∃ b, v = .bool b ∧ Q (.done (.ret (.bool (!b)))) t) E s) : wpAny M A (Builtin.«object.__ne__» ⟨[.ref x, y], []⟩) Q E s := by
  unfold Builtin.«object.__ne__»
  repeat (first
    | with_reducible refine wpAny_cRoomFor room ?_
    | (refine wpAny_bind (m := callSpecialIfBound? (.ref x) (Str.ofString "__eq__") [y]) (PySem.W.ifBound_K KX I found isF (wpAny_mono h (fun v t q => by
        obtain ⟨b, rfl, q⟩ := q
        repeat (first | exact q | exact wpAny_pure q | exact wpAny_truthy_bool q | (refine wpAny_bind (m := truthy (.bool _)) (wpAny_truthy_bool ?_)) | wp_step)) fun _ _ e => e)))
    | wp_step)
theorem ne_call (room : A.in1.units < cLine) (KX : K.In s.heap) (I : PySem.W.InstAt s.heap x ox C od) (mro : PySem.W.mroIn K C (.type "object") = some true) (found : PySem.W.findIn K (.ref C) "__eq__" = some (some (.ref f))) (isF : PySem.W.isFn K (.ref f) = true) {Q : Value → Shared → Prop}
    (h : wpAny (model prog w) A.in1 (call (.ref f) [.ref x, y]) (fun v t => ∃ b, v = .bool b ∧ Q (.bool (!b)) t) E s) : wpAny (model prog w) A (call (.builtin "object.__ne__") [.ref x, y]) Q E s :=
  wpAny_call (codeAny_call_builtin F.cmp_object.ne.plain F.cmpEntry_ne (PySem.W.check_slot F.cmpKind_ne F.cmpSplit_ne (I.type.andThen (PySem.W.looks_mroIn KX mro)) (F.cmpArgs_ne _ _) (ne_body (A := A.in1) room KX I found isF (wpAny_mono h (fun v t q => by
    obtain ⟨b, e, q⟩ := q
    exact ⟨b, e, q⟩) fun _ _ e => e))))
theorem ne_bound {Q : Option Value → Shared → Prop} (KX : K.In s.heap) (I : PySem.W.InstAt s.heap x ox C od) (at_ : PySem.W.findIn K (.ref C) "__ne__" = some (some (.builtin "object.__ne__")))
    (h : wpAny M A (call (.builtin "object.__ne__") [.ref x, y]) (fun v => Q (some v)) E s) : wpAny M A (callSpecialIfBound? (.ref x) "__ne__" [y]) Q E s := by
  have all : wpAny M A (call (.builtin "object.__ne__") ([.ref x] ++ [y]) >>= fun v => pure (some v)) Q E s := wpAny_bind (wpAny_mono h (fun _ _ q => wpAny_pure q) fun _ _ e => e)
  simp only [callSpecialIfBound?, bindSpecialIfBound?]
  refine wpAny_holding (wpAny_bind (wpAny_bind (wpAny_bind (I.type.here ((PySem.W.looks_findIn KX at_).here (wpAny_bind (wpAny_askSetting (wpAny_ite ?_))))))))
  split
  · exact wpAny_bind (wpAny_of_eq (F.cmp_object.ne.bind _) (wpAny_pure (by exact all)))
  · exact wpAny_tryCatch (wpAny_bind (wpAny_of_eq (F.cmp_object.ne.bind _) (wpAny_pure (by exact all))))
theorem ne_rich {b : Addr} {ob : Obj} {od2 : Option Obj} (r0 : A.units < cLine) (r1 : A.in1.units < cLine) (KX : K.In s.heap) (I : PySem.W.InstAt s.heap x ox C od) (I2 : PySem.W.InstAt s.heap b ob C od2) (mro : PySem.W.mroIn K C (.type "object") = some true)
    (at_ : PySem.W.findIn K (.ref C) "__ne__" = some (some (.builtin "object.__ne__"))) (found : PySem.W.findIn K (.ref C) "__eq__" = some (some (.ref f))) (isF : PySem.W.isFn K (.ref f) = true) {Q : Value → Shared → Prop}
    (h : wpAny (model prog w) A.in1 (call (.ref f) [.ref x, .ref b]) (fun v t => ∃ k, v = .bool k ∧ Q (.bool (!k)) t) E s) : wpAny (model prog w) A (richCompare .NotEq (.ref x) (.ref b)) Q E s := by
  have one : wpAny (model prog w) A (tryCompare (.ref x) "__ne__" (.ref b)) (fun r t => ∃ k, r = some (.bool k) ∧ Q (.bool k) t) E s := by
    unfold tryCompare
    refine wpAny_bind (ne_bound KX I at_ (ne_call r1 KX I mro found isF (wpAny_mono h (fun v t q => ?_) fun _ _ e => e)))
    obtain ⟨k, e, q⟩ := q
    exact ⟨k, e, wpAny_pure ⟨_, rfl, q⟩⟩
  unfold richCompare
  simp only [oneThing_ref]
  refine wpAny_holding (wpAny_bind (wpAny_cRoomFor r0 ?_))
  rw [cmpInfo_NotEq]
  dsimp only
  refine wpAny_bind (I.type.here (wpAny_bind (I2.type.here ?_)))
  rw [show (Value.ref C != Value.ref C) = false from by simp]
  simp only [Bool.false_eq_true, if_false]
  refine wpAny_bind (wpAny_pure ?_)
  simp only [Bool.false_eq_true, if_false]
  refine wpAny_bind (wpAny_mono one (fun r t q => ?_) fun _ _ e => e)
  obtain ⟨k, rfl, q⟩ := q
  exact wpAny_pure q
end
def rOwnNe (C : Addr) (sp : Sp) (E : XK) : R2 := fun x y H Q => ∃ a b dx dy fs gs, x = .ref a ∧ y = .ref b ∧ H a = some (.ins C dx fs) ∧ H b = some (.ins C dy gs) ∧ sp [.ref a, .ref b] H (fun v H' => ∃ k, v = .bl k ∧ Q (.bl (!k)) H') E
theorem op_ownNe {X : Cx} {CX : CXT} {C f : Addr} {fd : FuncData} {ps : List Str} {sp : Sp} {E : XK} {n : Nat} (F : FnOk X.prog X.w X.K X.mg X.base CX n f fd ps sp) (mro : PySem.W.mroIn X.K C (.type "object") = some true)
    (at_ : PySem.W.findIn X.K (.ref C) "__ne__" = some (some (.builtin "object.__ne__"))) (found : PySem.W.findIn X.K (.ref C) "__eq__" = some (some (.ref f))) (isF : PySem.W.isFn X.K (.ref f) = true) (bind : Binds X.K fd ps []) (room : Room (n + 1) X.A) (pass : Passes CX X E) : OpR X (compareOp .NotEq) (rOwnNe C sp E) := by
  intro pins s σ H x y v u Q I rx ry hq
  obtain ⟨a, b, dx, dy, fs, gs, rfl, rfl, ha, hb, say⟩ := hq
  obtain rfl : v = Value.ref a := rx
  obtain rfl : u = Value.ref b := ry
  show wpAny (model X.prog X.w) X.A (richCompare .NotEq (.ref a) (.ref b)) (EP X pins σ Q) X.xe s
  obtain ⟨_, at1, _⟩ := ins_get I.hok ha
  obtain ⟨_, at2, _⟩ := ins_get I.hok hb
  obtain ⟨_, at1, _⟩ := at1.look
  obtain ⟨_, at2, _⟩ := at2.look
  have in1 := room.in1
  refine ne_rich room.units0 in1.units0 I.kIn at1 at2 mro at_ found isF ?_
  have many := F.len _ _ _ _ say
  have two : Vals [V.ref a, V.ref b] [Value.ref a, Value.ref b] := .cons rfl (.cons rfl .nil)
  have bound := bind s [.ref a, .ref b] I.kIn (by simpa using many)
  rw [List.append_nil] at bound
  have env : Env0 X.prog X.w X.K X.mg X.base X.A.in1 X.stack s H := by
    have e := I.env0
    exact ⟨e.frames, e.mod, e.bs, e.bsz, e.funs, e.frf, e.hok, e.bare⟩
  refine wpAny_call (codeAny_mono (F.run X.A.in1 X.stack s H ⟨[.ref a, .ref b], []⟩ [.ref a, .ref b] [.ref a, .ref b] _ E in1 env bound two say) fun r t done => ?_)
  match r, done with
  | .ok (.ret z), done =>
    obtain ⟨v2, H2, J, rel, k, e, q⟩ := I.after done
    subst e
    cases rel
    exact ⟨k, rfl, .bl (!k), H2, J, rfl, q⟩
  | .error e, done => exact pass pins σ H s e t I done
  | .ok .next, done => exact done.elim
  | .ok .brk, done => exact done.elim
  | .ok .cont, done => exact done.elim
end G9
set_option Elab.async false
set_option linter.all false
set_option maxRecDepth 100000
set_option maxHeartbeats 4000000
/-! one text, two readings (a list or a tuple): the reader of the goal chooses, at each turn anew -/
namespace Ei
open PySem PySem.Spec PyProof.Rows L2
def eE (a b : TE) : TE := fun σ H Q => a σ H Q ∨ b σ H Q
def eG (a b : TG) : TG := fun v σ H Q => a v σ H Q ∨ b v σ H Q
def eI (a b : TI) : TI := fun σ H R => a σ H R ∨ b σ H R
def eT (a b : TT) : TT := fun σ H Q => a σ H Q ∨ b σ H Q
section
variable {X : Cx} {e tg : Expr}
theorem pe_ei {a b : TE} (h1 : PE X e a) (h2 : PE X e b) : PE X e (eE a b) := ⟨fun pins s σ H Q I h => h.elim (h1.run pins s σ H Q I) (h2.run pins s σ H Q I)⟩
theorem pt_ei {a b : TT} (h1 : PT X e a) (h2 : PT X e b) : PT X e (eT a b) := ⟨fun pins s σ H Q I h => h.elim (h1.run pins s σ H Q I) (h2.run pins s σ H Q I)⟩
theorem pg_ei {a b : TG} (h1 : PG X tg a) (h2 : PG X tg b) : PG X tg (eG a b) := ⟨fun pins s σ H v u Q I r h => h.elim (h1.run pins s σ H v u Q I r) (h2.run pins s σ H v u Q I r)⟩
theorem pi_ei {a b : TI} (h1 : PI X tg e a) (h2 : PI X tg e b) : PI X tg e (eI a b) := ⟨fun pins s σ H R I h => h.elim (h1.run pins s σ H R I) (h2.run pins s σ H R I)⟩
end
end Ei
set_option Elab.async false
set_option linter.all false
set_option maxRecDepth 100000
set_option maxHeartbeats 4000000
/-! other numbers: promises, lanes as data -/
namespace Pr
open PySem PySem.Spec PyProof.Rows L2 TM Ep
open Evl (Ex Ev EvT EvA EvL EvO)
theorem CAt.same {C : Addr} {H : Hp} {p : Addr} {L M : Lanes} (h : Same M L) (c : CAt C H p M) : CAt C H p L := by
  obtain ⟨dx, l, d, e, y, g, rs, qs, ho, c⟩ := c
  have hn := h.nb
  have hl := h.len
  have ha := adj_of hn
  refine ⟨dx, l, d, e, y, g, rs, qs, ho, ?_, hl ▸ c.d_, ?_, hl ▸ c.e_, hl ▸ c.ql, fun i q k => ?_, ?_, ?_⟩
  · obtain ⟨N, u, v, s⟩ := c.l_
    exact ⟨N, u, v.trans h, s⟩
  · rw [← hl, ← ha]
    exact c.r_
  · obtain ⟨kvs, u, v⟩ := c.q_ i q k
    exact ⟨kvs, u.same (nb_adj hn), v⟩
  · rw [← yards_of hn hl]
    exact c.y_
  · rw [← gates_of hn hl]
    exact c.g_
/-- a list or a tuple -/
def LT (H : Hp) (a : Addr) (xs : List V) : Prop := H a = some (.lst xs) ∨ H a = some (.tup xs)
theorem LT.ex {H H' : Hp} {a : Addr} {xs : List V} (e : Ex H H') (h : LT H a xs) : LT H' a xs := h.imp (e _ _) (e _ _)
abbrev fOf (ps : List Nat) : Nat → Nat := fun i => ps.getD i 0
def spEq (C : Addr) : Sp := fun vs H Q _ => ∃ L M p q, vs = [.ref p, .ref q] ∧ CAt C H p L ∧ CAt C H q M ∧ ∀ H', Ex H H' → Q (.bl (decide (Same L M))) H'
def spNew (C : Addr) : Sp := fun vs H Q _ => ∃ L p a ps, vs = [.ref p, .ref a] ∧ CAt C H p L ∧ LT H a (vIs ps) ∧ Mixed (L.length + 1) ps ∧ L.length ≤ 1000 ∧ ∀ H', Ex H H' → Q (.bl true) H'
def spRen (C : Addr) : Sp := fun vs H Q _ => ∃ L vt p a ps, vs = [.ref p, .ref a] ∧ CAt C H p L ∧ Good vt L ∧ LT H a (vIs ps) ∧ Mixed (L.length + 1) ps ∧ ∀ q H', Ex H H' → H q = none → CAt C H' q (ren (fOf ps) L) → Q (.ref q) H'
def spNumbers : Sp := fun vs H Q _ => ∃ p m, vs = [.ref p, vI m] ∧ PotAt H p ∧ 0 < m ∧ m ≤ 1001 ∧ ∀ a ps H', Mixed m ps → H' a = some (.lst (vIs ps)) → H a = none → ExB p H H' → PotAt H' p → Q (.ref a) H'
def spGatesOf : Sp := fun vs H Q _ => ∃ L a, vs = [.ref a] ∧ LanesAt H a L ∧ L.length ≤ 1000 ∧ ∀ p H', Ex H H' → H p = none → H' p = some (.lst (vIs (gatesL L))) → Q (.ref p) H'
def spLed (C : Addr) : Sp := fun vs H Q _ => ∃ L vt c e a ps b s t, vs = [.ref c, .ref e, .ref a, .ref b, vI s, vI t] ∧ CAt C H c L ∧ CAt C H e (ren (fOf ps) L) ∧ H a = some (.lst (vIs ps)) ∧ Mixed (L.length + 1) ps ∧ LanesAt H b L ∧ Good vt L ∧ s ∈ vt ∧ t ∈ vt ∧ ∀ H', Ex H H' → Q (.bl true) H'
/-! ### lanes as data -/
def dPs (L : Lanes) : List PyData := L.map fun p => .tuple [.int (p.1 : Int), .int (p.2 : Int)]
def dP (L : Lanes) : PyData := .list (dPs L)
theorem dp_pairs {K : PySem.W.Frag} {H : Hp} : ∀ {vs : List V} {L : Lanes}, Paired (PairAt H) vs L → DpAll K H vs (dPs L)
  | _, _, .nil => .nil
  | _, _, .cons ⟨t, r, k⟩ h => by
    subst r
    exact .cons (.tup (Evl.st_of k) (.cons (.int _) (.cons (.int _) .nil))) (dp_pairs h)
theorem dp_P {K : PySem.W.Frag} {H : Hp} {a : Addr} {L : Lanes} (h : LanesAt H a L) : Dp K H (.ref a) (dP L) := by
  obtain ⟨vs, r, k⟩ := h
  exact .lst (Evl.sq_of r) (dp_pairs k)
theorem depth_Ps : ∀ L : Lanes, PyData.depthAll (dPs L) ≤ 1
  | [] => by simp [dPs, PyData.depthAll]
  | a :: l => by
    have ih := depth_Ps l
    unfold dPs at ih ⊢
    simp only [List.map_cons, PyData.depthAll, PyData.depth]
    omega
theorem canLay_Ps : ∀ L : Lanes, PyData.canLayAll0 (dPs L) = true
  | [] => by simp [dPs, PyData.canLayAll0]
  | a :: l => by
    have ih := canLay_Ps l
    unfold dPs at ih ⊢
    simp [PyData.canLayAll0, PyData.canLay0, ih]
theorem shaped_P (L : Lanes) : SeqAt.shaped (dP L) = true := by
  have h := depth_Ps L
  have h2 := canLay_Ps L
  unfold SeqAt.shaped dP
  simp only [PyData.canLay0, PyData.depth, h2, Bool.true_and]
  exact decide_eq_true (by omega)
theorem eqv_Ps : ∀ L M : Lanes, PyData.eqvAll (dPs L) (dPs M) = decide (L = M)
  | [], [] => by simp [dPs, PyData.eqvAll]
  | [], b :: m => by simp [dPs, PyData.eqvAll]
  | a :: l, [] => by simp [dPs, PyData.eqvAll]
  | a :: l, b :: m => by
    have ih := eqv_Ps l m
    unfold dPs at ih ⊢
    obtain ⟨a1, a2⟩ := a
    obtain ⟨b1, b2⟩ := b
    simp only [List.map_cons, PyData.eqvAll, PyData.eqv, ih]
    by_cases h1 : a1 = b1
    · by_cases h2 : a2 = b2
      · subst h1; subst h2
        simp
      · have : ((a2 : Int) == (b2 : Int)) = false := by
          rw [beq_eq_false_iff_ne]
          omega
        simp [this, h2]
    · have : ((a1 : Int) == (b1 : Int)) = false := by
        rw [beq_eq_false_iff_ne]
        omega
      simp [this, h1]
theorem eqv_P (L M : Lanes) : PyData.eqv (dP L) (dP M) = decide (L = M) := by
  unfold dP
  simp only [PyData.eqv]
  exact eqv_Ps L M
section
variable {K : PySem.W.Frag} {σ : L2.St} {H : Hp} {te ta tb : TE}
theorem rv_eqP {a b : Addr} {l m : Lanes} (h1 : LanesAt H a l) (h2 : LanesAt H b m) : Evl.RV (rEqD K) (.ref a) (.ref b) H (.bl (decide (l = m))) := fun H1 e Q q =>
  ⟨dP l, dP m, dp_P (h1.ex e), dp_P (h2.ex e), shaped_P _, shaped_P _, by rw [eqv_P]; exact q H1 (Ex.refl _)⟩
theorem rv_neP {a b : Addr} {l m : Lanes} (h1 : LanesAt H a l) (h2 : LanesAt H b m) : Evl.RV (rNeD K) (.ref a) (.ref b) H (.bl (!decide (l = m))) := fun H1 e Q q =>
  ⟨dP l, dP m, dp_P (h1.ex e), dp_P (h2.ex e), shaped_P _, shaped_P _, by rw [eqv_P]; exact q H1 (Ex.refl _)⟩
/-- [g u for u in l], l a list or a tuple of places -/
theorem src_lt {a : Addr} {xs : List V} (h : Ev te σ H (.ref a)) (hx : LT H a xs) : Src (Ei.eI (iList K te) (iTup K te)) σ H xs.length (fun i v => xs[i]? = some v) := fun H1 e R k => by
  rcases hx with hx | hx
  · exact .inl (src_list h (Evl.sq_of hx) H1 e R k)
  · exact .inr (src_tup h (Evl.st_of hx) H1 e R k)
end
/-! ### what is made and called -/
section
variable {K : PySem.W.Frag} {σ : L2.St} {H : Hp} {te ta tb : TE}
/-- a comprehension over a list that is told anew -/
theorem evp_lcL {tl : TE} {g : TG} {tt : TT} {vs : List Nat} {P P' : VP} (h : EvP tl σ H P) (k : ∀ v H1 H2, Ex H H1 → Ex H1 H2 → P v H1 H2 → EvP (tLc (iList K (tC v)) g tt te vs) σ H2 P') (hP : ∀ z Ha Hb Hc, Ex H Ha → Ex Ha Hb → Ex Hb Hc → P' z Hb Hc → P' z Ha Hc) : EvP (tLc (iList K tl) g tt te vs) σ H P' := fun H1 e Q q =>
  h H1 e _ fun v H2 e2 p => k v H1 H2 e e2 p H2 (Ex.refl _) Q fun z H3 e3 p3 => q z H3 (e2.trans e3) (hP z H1 H2 H3 e e2 e3 p3)
def NewC (C : Addr) (L : Lanes) : VP := fun v Ha Hb => ∃ q, v = .ref q ∧ Ha q = none ∧ CAt C Hb q L
theorem newC_back {C : Addr} {L : Lanes} {H1 H2 H3 : Hp} {v : V} (e : Ex H1 H2) (h : NewC C L v H2 H3) : NewC C L v H1 H3 := by
  obtain ⟨p, r, hp, k⟩ := h
  exact ⟨p, r, Evl.fresh_back e hp, k⟩
/-- Country(lanes) -/
theorem evp_make2 {C : Addr} {L : Lanes} (h : EvP te σ H (fun v _ Hb => ∃ a M vt, v = .ref a ∧ LanesAt Hb a M ∧ Good vt M ∧ Same M L)) : EvP (tMake C (spInit C) [] E0 (tCons te tNil)) σ H (NewC C L) := fun H1 e Q q =>
  h H1 e _ fun v H2 e2 ⟨a, M, vt, r, hL, G, S⟩ x dx hx hdx nx => by
    subst r
    have e3 : Ex H2 (upd (upd H2 dx (.own x)) x (.ins C dx [])) := (Ex.new hdx).trans (Ex.new (by rw [upd_ne nx.symm]; exact hx))
    refine ⟨M, x, dx, a, vt, rfl, upd_same, hL.ex e3, G, fun H3 e4 hC => ⟨rfl, ?_⟩⟩
    refine q _ _ (e2.trans fun b o hb => ?_) ⟨x, rfl, Evl.fresh_back e2 hx, hC.same S⟩
    exact e4 b o (e3 b o hb) fun z => by rw [z, hx] at hb; cases hb
theorem evp_make {C : Addr} {L : Lanes} {vt : List Nat} (h : EvP te σ H (fun v _ Hb => ∃ a, v = .ref a ∧ LanesAt Hb a L)) (G : Good vt L) : EvP (tMake C (spInit C) [] E0 (tCons te tNil)) σ H (NewC C L) :=
  evp_make2 (h.imp fun v _ _ _ _ ⟨a, r, k⟩ => ⟨a, L, vt, r, k, G, Same.refl L⟩)
theorem ev_nbs {C : Addr} {ts : TA} {L : Lanes} {p i : Nat} (h : EvA ts σ H [.ref p, vI i]) (hC : CAt C H p L) (hi : i < L.length + 1) : EvP (tCall (spNbs C) [] E0 ts) σ H (NewL (vIs (adj L i))) :=
  evp_callA h (fun H2 e2 Q q => ⟨L, p, i, rfl, hC.ex e2, hi, fun q' H3 e3 hq hq' => q _ H3 e3 ⟨q', rfl, hq, hq'⟩⟩) (fun v H1 H2 H3 _ e12 _ h => newL_back e12 h)
theorem ev_ren {C : Addr} {ts : TA} {L : Lanes} {vt ps : List Nat} {p a : Nat} (h : EvA ts σ H [.ref p, .ref a]) (hC : CAt C H p L) (G : Good vt L) (ha : LT H a (vIs ps)) (m : Mixed (L.length + 1) ps) : EvP (tCall (spRen C) [] E0 ts) σ H (NewC C (ren (fOf ps) L)) :=
  evp_callA h (fun H2 e2 Q q => ⟨L, vt, p, a, ps, rfl, hC.ex e2, G, ha.ex e2, m, fun q' H3 e3 hq hq' => q _ H3 e3 ⟨q', rfl, hq, hq'⟩⟩) (fun v H1 H2 H3 _ e12 _ h => newC_back e12 h)
/-- a property -/
theorem evp_prop {C : Addr} {R : Hp → Lanes → Addr → Prop} {p : Addr} {L : Lanes} (h : Ev te σ H (.ref p)) (hC : CAt C H p L) : EvP (tProp C (spGet C R) [] E0 te) σ H (fun v Ha Hb => ∃ q, v = .ref q ∧ Ha q = none ∧ R Hb L q) := fun H1 e Q q =>
  h H1 e _ fun H2 e2 => by
    have hC2 := hC.ex (e.trans e2)
    obtain ⟨dx, l, d, ee, yy, g, rs, qs, ho, _⟩ := id hC2
    exact ⟨p, dx, _, rfl, ho, L, p, rfl, hC2, fun q' H3 e3 fq hq => q _ H3 (e2.trans e3) ⟨q', rfl, Evl.fresh_back e2 fq, hq⟩⟩
theorem ev_range {n : Nat} (h : Ev te σ H (vI n)) (hn : n ≤ 100000) : EvP (tLstRg (tRg1 te)) σ H (NewL (vIs (List.range n))) := fun H1 e Q q =>
  h H1 e _ fun H2 e2 => ⟨_, rfl, ⟨by omega, by omega, by omega, by omega, by omega⟩, fun l hl => q _ _ (e2.trans (Ex.new hl)) ⟨l, rfl, Evl.fresh_back e2 hl, by rw [upd_same, rgV_N]⟩⟩
theorem rv_ixN {a : Addr} {xs : List V} {i : Nat} {v : V} (h : LT H a xs) (hv : xs[i]? = some v) : Evl.RV (rIx K) (.ref a) (vI i) H v := fun H1 e Q q => by
  rcases h with h | h
  · exact .inl ⟨a, xs, _, v, rfl, rfl, Evl.sq_of (e _ _ h), at_of rfl hv, q H1 (Ex.refl _)⟩
  · exact .inr (.inl ⟨a, xs, _, v, rfl, rfl, Evl.st_of (e _ _ h), at_of rfl hv, q H1 (Ex.refl _)⟩)
theorem vIs_at {l : List Nat} {i : Nat} (h : i < l.length) : (vIs l)[i]? = some (vI (l.getD i 0)) := by
  unfold vIs
  rw [List.getElem?_map, TM.getD_at h]
  rfl
/-- a == b of two countries -/
theorem rv_eqC {C p q : Addr} {L M : Lanes} (hp : CAt C H p L) (hq : CAt C H q M) : Evl.RV (G9.rOwnEq C (spEq C) E0) (.ref p) (.ref q) H (.bl (decide (Same L M))) := fun H1 e Q k => by
  have hp := hp.ex e
  have hq := hq.ex e
  obtain ⟨dx, _, _, _, _, _, _, _, ho, _⟩ := id hp
  obtain ⟨dy, _, _, _, _, _, _, _, ho', _⟩ := id hq
  exact ⟨p, q, dx, dy, _, _, rfl, rfl, ho, ho', L, M, p, q, rfl, hp, hq, fun H2 e2 => ⟨_, rfl, k H2 e2⟩⟩
theorem rv_neC {C p q : Addr} {L M : Lanes} (hp : CAt C H p L) (hq : CAt C H q M) : Evl.RV (G9.rOwnNe C (spEq C) E0) (.ref p) (.ref q) H (.bl (!decide (Same L M))) := fun H1 e Q k => by
  have hp := hp.ex e
  have hq := hq.ex e
  obtain ⟨dx, _, _, _, _, _, _, _, ho, _⟩ := id hp
  obtain ⟨dy, _, _, _, _, _, _, _, ho', _⟩ := id hq
  exact ⟨p, q, dx, dy, _, _, rfl, rfl, ho, ho', L, M, p, q, rfl, hp, hq, fun H2 e2 => ⟨_, rfl, k H2 e2⟩⟩
theorem ev_opPP' {r : R2} {z : V} {PA PB : VP} (ha : EvP ta σ H PA) (hb : EvP tb σ H PB) (hr : ∀ v u H1 H2 H3, Ex H H1 → Ex H1 H2 → PA v H1 H2 → Ex H2 H3 → PB u H2 H3 → Evl.RV r v u H3 z) : Ev (tOp r ta tb) σ H z := fun H0 e Q q =>
  ha H0 e _ fun v H1 e1 p => hb H1 (e.trans e1) _ fun u H2 e2 p2 => hr v u H0 H1 H2 e e1 p e2 p2 H2 (Ex.refl _) Q fun H3 e3 => q H3 ((e1.trans e2).trans e3)
end
/-! ### beside the pot -/
theorem but_upd {H : Hp} {p : Addr} {o : HO} : Ex (but H p) (upd H p o) := fun b u h => by
  unfold but at h
  split at h
  · cases h
  · rename_i n
    rw [upd_ne n]
    exact h
theorem but_in {H H' : Hp} {p : Addr} (e : Ex H H') : Ex (but H p) (but H' p) := but_exB (.of e)
/-- a country made under the locked pot lies beside the pot -/
theorem lockC {te : TE} {σ : L2.St} {H : Hp} {p C : Addr} {L : Lanes} {Q : VK} (hp : PotAt H p) (h : ∀ Ha, Ex (but H p) Ha → EvP te σ Ha (fun v H1 H2 => ∃ q, v = .ref q ∧ H1 q = none ∧ CAt C H2 q L))
    (k : ∀ q H', H q = none → q ≠ p → Ex H H' → CAt C (but H' p) q L → Q (.ref q) H') : tLockE te σ H Q := by
  obtain ⟨a, b, hpo, r⟩ := hp
  refine ⟨p, _, hpo, trivial, fun od => ?_⟩
  refine h _ but_upd _ (Ex.refl _) _ fun v H2 e2 ⟨q, r, fq, hC⟩ => ⟨e2 _ _ upd_same, ?_⟩
  subst r
  have nq : q ≠ p := fun z => by rw [z, upd_same] at fq; cases fq
  refine k q _ (by rw [upd_ne nq] at fq; exact fq) nq (fun c o hc => ?_) (hC.nf (Nf.but (e2 _ _ upd_same) _))
  by_cases z : c = p
  · subst z
    rw [hpo] at hc
    cases hc
    exact upd_same
  · rw [upd_ne z]
    exact e2 c o (by rw [upd_ne z]; exact hc)
end Pr
set_option Elab.async false
set_option linter.all false
set_option maxRecDepth 100000
set_option maxHeartbeats 4000000
/-! sorted of a tuple of ints -/
namespace G9
open PySem PySem.Spec PyProof.Rows L2 SrtO
section
variable {prog : Program} {w : World} {A : Around} {E : Value → Shared → Prop} {s : Shared}
abbrev gath (s : Shared) (vs : List Value) : Heap := (s.heap.push (seqObj "list" #[] 0)).update s.heap.objs.size (Obj.mapSeq (· ++ vs.toArray))
/-- a tuple is gathered into a new list -/
theorem gather_tup {t : Addr} {vs : List Value} {Q : List Value → Shared → Prop} (ht : IsTup s.heap t vs.toArray) (small : vs.length ≤ sizeLine) (q : Q vs { s with heap := gath s vs }) :
    wpAny (model prog w) A (collect (.ref t)) Q E s := by
  obtain ⟨o, at0, cls, n, dat⟩ := id ht
  have at1 : (s.heap.push (seqObj "list" #[] 0)).get? t = some o := Heap.get?_push_of_some _ at0
  have new1 : (s.heap.push (seqObj "list" #[] 0)).get? s.heap.objs.size = some (seqObj "list" #[] 0) := Heap.get?_push_size _ rfl
  have size1 : ((#[] : Array Value) ++ vs.toArray).size ≤ sizeLine + 1 := by
    simp only [Array.size_append, List.size_toArray, List.length_nil]
    omega
  unfold collect
  refine wpAny_bind (wpAny_runValue (codeAny_builtin entry_proto_collect' ?_))
  change wpAny _ _ (do again (.builtin "list.__iadd__" ⟨[← newList [], .ref t], []⟩)) _ _ s
  refine wpAny_bind (wpAny_newList (wpAny_pure ⟨Code.quiet_builtin _ (by decide +kernel), ?_⟩))
  refine codeAny_builtin entry_list_iadd' ?_
  change wpAny _ _ (Builtin.List.listExtendWith (.ref s.heap.objs.size) (.ref t) (.ref s.heap.objs.size)) _ _ { s with heap := s.heap.push (seqObj "list" #[] 0) }
  unfold Builtin.List.listExtendWith
  refine wpAny_bind (wpAny_typeOf (T := "tuple") ⟨o, at1, cls⟩ ?_)
  rw [if_pos (by rw [show (Value.type "tuple" == Value.type "tuple") = true from rfl, Bool.or_true])]
  refine wpAny_bind (listItems_at at1 dat (wpAny_bind (listItems_at (xs := #[]) (n := 0) new1 rfl ?_)))
  rw [if_neg (by simp)]
  refine wpAny_bind (listUpdate_at (xs := #[]) (n := 0) new1 rfl (wpAny_pure ?_) (Nat.zero_le _) size1)
  refine wpAny_bind (wpAny_load (get?_update_seq new1 _) ?_)
  change wpAny _ _ (pure ((#[] : Array Value) ++ vs.toArray).toList) Q E _
  have same : ((#[] : Array Value) ++ vs.toArray).toList = vs := by simp
  rw [same]
  exact wpAny_pure q
theorem sorted_tup {t : Addr} {vs : List Value} {lt : Value → Value → Bool} {Q : Value → Shared → Prop} (O : Swo lt) (ht : IsTup s.heap t vs.toArray) (small : vs.length ≤ sizeLine)
    (can : 2 ≤ vs.length → ∀ (h₁ : Heap) (a : Addr), SortableO prog w A.in1.in1 { s with heap := h₁ } a vs lt)
    (q : ∀ out : List Value, Srtd lt out → Stb lt out vs → Q (.ref (s.heap.objs.size + 1)) { s with heap := sortedAll s.heap vs out.toArray }) :
    wpAny (model prog w) A (call (.builtin "sorted") [.ref t]) Q E s := by
  have sz : (gath s vs).objs.size = s.heap.objs.size + 1 := by rw [Heap.size_update, size_push']
  have at2 : ((gath s vs).push (seqObj "list" vs.toArray 0)).get? (s.heap.objs.size + 1) = some (seqObj "list" vs.toArray 0) := by
    have := Heap.get?_push_size (gath s vs) (o := seqObj "list" vs.toArray 0) rfl
    rw [sz] at this
    exact this
  refine Calls.call_function_entry kind_sorted plain_sorted entry_sorted (args_sorted1 _) ?_
  unfold Builtin.«sorted»
  refine wpAny_bind (m := checkCount "sorted" 1 1 _) (wpAny_pure (wpAny_bind (gather_tup ht small (wpAny_bind (wpAny_newList ?_ small)))))
  change wpAny _ _ _ _ _ { s with heap := (gath s vs).push (seqObj "list" vs.toArray 0) }
  rw [sz]
  refine wpAny_bind (wpAny_holding (wpAny_call_entry slot_list_sort ⟨_, at2, rfl⟩ entry_list_sort ?_ (args_list_sort _)))
  refine list_sort_ord O at2 small (fun two => can two _ _) fun out one two => ⟨_, rfl, wpAny_pure ⟨_, rfl, q out one two⟩⟩
end
/-- sorted(xs), ints, xs a list or a tuple -/
def rSorted2 (K : PySem.W.Frag) : List V → Hp → VK → Prop := fun vs H Q => rSortedI K vs H Q ∨ ∃ (t : Addr) (ns : List Int), vs = [V.ref t] ∧ SqT K H t (ns.map V.int) ∧
  ∀ (to : List Int) (p : Addr), to.Perm ns → to.Pairwise (· ≤ ·) → H p = none → Q (.ref p) (upd H p (.lst (to.map V.int)))
section
variable {X : Cx}
theorem cr_sortedTI : CallR X (.builtin "sorted") (fun vs H Q => ∃ (t : Addr) (ns : List Int), vs = [V.ref t] ∧ SqT X.K H t (ns.map V.int) ∧
    ∀ (to : List Int) (p : Addr), to.Perm ns → to.Pairwise (· ≤ ·) → H p = none → Q (.ref p) (upd H p (.lst (to.map V.int)))) := by
  intro pins s σ H vs us Q I r h
  obtain ⟨t, ns, rfl, ht, q⟩ := h
  obtain ⟨items, told, tup, small⟩ := I.tuple ht
  rw [Vals.ref1 r]
  have isI := told.ints
  refine sorted_tup swo_int tup (by rw [← told.length]; exact small) (fun two _ _ => ints_sortable isI two) fun out one two => ?_
  obtain ⟨are, perm, up⟩ := ints_out isI one two
  obtain ⟨epoch, here⟩ := sortedAll_at s.heap items out.toArray
  have fits : ((out.map iv).map V.int).length ≤ sizeLine := by
    rw [List.length_map] at small ⊢
    rw [perm.length_eq]
    exact small
  refine ⟨.ref _, upd H (s.heap.objs.size + 1) (.lst ((out.map iv).map V.int)), ?_, rfl, q _ _ perm up (I.hok.fresh (Nat.le_succ _))⟩
  exact I.laid (t' := s.toks) (fun _ _ => sortedAll_old) (Nat.le_succ _) ⟨fits, out, epoch, vals_of_ints are, here⟩
theorem cr_sorted2 : CallR X (.builtin "sorted") (rSorted2 X.K) := cr_sortedI.or cr_sortedTI
end
end G9

set_option Elab.async false
set_option linter.all false
set_option maxRecDepth 100000
set_option maxHeartbeats 4000000
namespace Pr
open PySem PySem.Spec PyProof.Rows L2 TM Ep
open Evl (Ex Ev EvT EvA EvL EvO)
theorem ev_sort2 {K : PySem.W.Frag} {σ : L2.St} {H : Hp} {te : TE} {l : List Nat} {a : Addr} (h : Ev te σ H (.ref a)) (ha : LT H a (vIs l)) : EvP (tCB (G9.rSorted2 K) (tCons te tNil)) σ H (NewL (vIs (isort l))) := fun H1 e Q q =>
  h H1 e _ fun H2 e2 => by
    have ha2 := ha.ex (e.trans e2)
    have go : ∀ (to : List Int) (p : Addr), to.Perm (l.map fun (n : Nat) => (n : Int)) → to.Pairwise (· ≤ ·) → H2 p = none → Q (.ref p) (upd H2 p (.lst (to.map V.int))) := fun to p perm srt hp => by
      have := int_sorted perm srt
      subst this
      rw [← vIs_int]
      exact q _ _ (e2.trans (Ex.new hp)) ⟨p, rfl, Evl.fresh_back e2 hp, upd_same⟩
    rcases ha2 with ha2 | ha2
    · exact .inl ⟨a, _, rfl, by rw [← vIs_int]; exact Evl.sq_of ha2, go⟩
    · exact .inr ⟨a, _, rfl, by rw [← vIs_int]; exact Evl.st_of ha2, go⟩
theorem set_vIs (l : List Nat) (i x : Nat) : (vIs l).set i (vI x) = vIs (l.set i x) := List.map_set.symm
/-- numbers mixed -/
structure StN (H0 H : Hp) (p lf pl : Addr) (l q : List Nat) : Prop where
  pot : PotAt H p
  ex : ExB p H0 H
  hf : H lf = some (.lst (vIs l))
  hp : H pl = some (.lst (vIs q))
  ff : H0 lf = none
  fp : H0 pl = none
  nfp : lf ≠ p
  npp : pl ≠ p
  nfq : lf ≠ pl
theorem StN.byPot {H0 H H' : Hp} {p lf pl : Addr} {l q : List Nat} (S : StN H0 H p lf pl l q) (e : ExB p H H') (hp : PotAt H' p) : StN H0 H' p lf pl l q :=
  { S with pot := hp, ex := S.ex.trans e, hf := e _ _ S.hf S.nfp, hp := e _ _ S.hp S.npp }
theorem StN.byEx {H0 H H' : Hp} {p lf pl : Addr} {l q : List Nat} (S : StN H0 H p lf pl l q) (e : Ex H H') : StN H0 H' p lf pl l q := S.byPot (.of e) (S.pot.ex e)
theorem StN.pop {H0 H : Hp} {p lf pl : Addr} {l l' q : List Nat} (S : StN H0 H p lf pl l q) : StN H0 (upd H lf (.lst (vIs l'))) p lf pl l' q :=
  { S with pot := S.pot.put S.nfp, ex := S.ex.mut S.ff, hf := upd_same, hp := by rw [upd_ne S.nfq.symm]; exact S.hp }
theorem StN.put {H0 H : Hp} {p lf pl : Addr} {l q q' : List Nat} (S : StN H0 H p lf pl l q) : StN H0 (upd H pl (.lst (vIs q'))) p lf pl l q' :=
  { S with pot := S.pot.put S.npp, ex := S.ex.mut S.fp, hp := upd_same, hf := by rw [upd_ne S.nfq]; exact S.hf }
end Pr
namespace K15
open PySem PySem.Spec PyProof.Rows L2 TM Pr Ep
open Evl (Ex Ev EvT EvA EvL EvO)
section
variable {P : Program} {w : World} {K : PySem.W.Frag} {mg : Str → Option Value} {base : Heap} {A : Adr}
theorem ok_Country_gates (T : Txt K mg A) : FnOk P w K mg base CX0 1 A.Country_gates A.Country_gates_fd ["self"] (spGet A.Country rGatesG) := by
  refine T.F_Country_gates.ok sc_Country_gates (fun vs H Q E h => ?_) (fun cdv A' outer s H vs Q E hr h => ?_)
  · obtain ⟨L, p, rfl, _⟩ := h
    rfl
  · obtain ⟨L, p, rfl, ⟨dx, l, d, e, y, g, rs, qs, ho, C⟩, k⟩ := h
    refine ⟨_, (pss_one (ps_ret (show PE _ _ (tCB (rListOf K) _) from (pe_callTy (T := "list") call_list_of (by rfl) T.n_list (by decide +kernel) (pa_cons (show PE _ _ (tFld K _ _) from pe_fld (pv 0) rfl) pa_nil))))), ?_⟩
    refine ⟨_, rfl, p, _, dx, _, _, rfl, ho, T.cl_Country, T.na_Country_gates, fl_g, g, _, rfl, .inl (Evl.sq_of C.g_), fun q hq => ?_⟩
    exact k q _ (Ex.new hq) hq upd_same
theorem ok_Country_eq (T : Txt K mg A) : FnOk P w K mg base CX0 1 A.Country_eq A.Country_eq_fd ["self", "other"] (spEq A.Country) := by
  refine T.F_Country_eq.ok sc_Country_eq (fun vs H Q E h => ?_) (fun cdv A' outer s H vs Q E hr h => ?_)
  · obtain ⟨L, M, p, q, rfl, _⟩ := h
    rfl
  · obtain ⟨L, M, p, q, rfl, hp, hq, k⟩ := h
    refine ⟨_, (pss_one (ps_ret (pe_and (show PE _ _ (tCB (rIsi K) _) from (pe_callB (id := "isinstance") call_isi (by rfl) T.n_isinstance (by decide +kernel) (pa_cons (pv 1) (pa_cons (pe_glob (v := .ref A.Country) rfl T.m_Country rfl) pa_nil)))) (pe_one (show PE _ _ (tOp (rEqD K) _ _) from pe_cmpR (op_eqD hr.units) (show PE _ _ (tFld K _ _) from pe_fld (pv 0) rfl) (show PE _ _ (tFld K _ _) from pe_fld (pv 1) rfl) (nomark _)))))), ?_⟩
    obtain ⟨dx, l, d, e, y, g, rs, qs, ho, C⟩ := id hp
    obtain ⟨dx', l', d', e', y', g', rs', qs', ho', C'⟩ := id hq
    obtain ⟨N, hN, pN, sN⟩ := C.l_
    obtain ⟨N', hN', pN', sN'⟩ := C'.l_
    have I := T.ic_Country
    refine p_ret (P := Is (.bl (decide (Same L M)))) (evp_ev (Evl.ev_is (Evl.ev_andV (a := true) (b := decide (N = N')) (ev_cb2 (z := .bl true) (Evl.ev_var rfl) Evl.ev_c fun H1 e1 Q q => ⟨_, _, _, _, true, rfl, .own _, .base (.ins (e1 _ _ ho') I.cl I.ha I.hn I.htk I.hm), I.me, q⟩)
      (fun _ => Evl.ev_op (ev_fld rfl ho T.cl_Country T.na_Country_lanes fl_l) (ev_fld rfl ho' T.cl_Country T.na_Country_lanes fl_l) (rv_eqP hN hN'))) ?_)) fun v H1 e1 h => ?_
    · show V.bl (decide (N = N')) = _
      congr 1
      exact decide_eq_decide.mpr (lex_eq pN sN pN' sN')
    · subst h
      exact k H1 e1
theorem ok_are_new_numbers (T : Txt K mg A) : FnOk P w K mg base CX0 4 A.are_new_numbers A.are_new_numbers_fd ["country", "value"] (spNew A.Country) := by
  refine T.F_are_new_numbers.ok sc_are_new_numbers (fun vs H Q E h => ?_) (fun cdv A' outer s H vs Q E hr h => ?_)
  · obtain ⟨L, p, a, ps, rfl, _⟩ := h
    rfl
  · obtain ⟨L, p, a, ps, rfl, hC, ha, m, hsm, k⟩ := h
    refine ⟨_, (pss_cons (ps_if (PW.pt (pw_or (pt_not (pt_val (pe_call (ok_is_row T) (hr.mono (by decide)) (by rfl) T.m_is_row T.F_is_row.kp T.b_is_row .nil pass0 (pa_cons (pv 1) pa_nil)))) (pw_or1 (pt_not (pt_val (show PE _ _ (tCB (rAll K) _) from (pe_callB (id := "all") (cr_all rfl) (by rfl) T.n_all (by decide +kernel) (pa_cons (pe_lc (own := [("place", 2)]) rfl sc_are_new_numbers.nd (Ei.pi_ei (show PI _ _ _ (iList K _) from pi_list (pv 1)) (show PI _ _ _ (iTup K _) from pi_tup (pv 1))) (blkOk_by (N := n_are_new_numbers) (sc := defScope s_are_new_numbers) (by decide +kernel)) (fun _ _ _ _ _ => (pg_name (i := 2) sc_are_new_numbers.nd rfl (Or.inl rfl))) (fun _ _ _ _ _ => pts_nil) (fun _ _ _ _ _ => (pe_call (ok_is_place T) (hr.mono (by decide)) (by rfl) T.m_is_place T.F_is_place.kp T.b_is_place .nil pass0 (pa_cons (pv 0) (pa_cons (pv 2) pa_nil))))) pa_nil)))))))) (pss_one (ps_ret pe_bl)) pss_nil) (pss_one (ps_ret (show PE _ _ (tOp (rEqD K) _ _) from pe_cmpR (op_eqD hr.units) (show PE _ _ (tCB (G9.rSorted2 K) _) from (pe_callB (id := "sorted") G9.cr_sorted2 (by rfl) T.n_sorted (by decide +kernel) (pa_cons (pv 1) pa_nil))) (pe_listRg rfl (by rfl) T.n_list (prg_1 (by rfl) T.n_range (pe_op op_add (show PE _ _ (tCB (rLenA K) _) from (pe_callB (id := "len") call_len (by rfl) T.n_len (by decide +kernel) (pa_cons (pe_prop (pv 0) T.cl_Country T.pr_Country_lanes (ok_Country_lanes T) (hr.mono (by decide)) T.b_Country_lanes .nil pass0 rfl) pa_nil))) pe_int))) (nomark _))))), ?_⟩
    have hl := m.len
    refine p_skip (Evl.et_is (Evl.et_or (a := false) (b := false) (Evl.et_is (Evl.et_not (a := true) (evt_P (evp_callA (vs := [.ref a]) (Evl.ea_cons (Evl.ev_var rfl) Evl.ea_nil) (fun H2 e2 Q q => ⟨a, vIs ps, rfl, ha.ex e2, fun H3 e3 => q _ H3 e3 rfl⟩) (fun _ _ _ _ _ _ _ h => h)))) rfl) (fun _ => Evl.et_is (Evl.et_not (a := true) (evt_P (evp_cb1 (lcF (src_lt (Evl.ev_var rfl) ha) (by omega) (fun x => [some (.ref p), some (.ref a), some x]) (fun _ => rfl) (fun _ _ _ _ q => q) (fun _ => true) (fun _ => .bl true) (fun u H1 hu e1 => fun H1 e Q q => q H1 (Ex.refl _)) (fun u H1 hu e1 _ => ?_)) (fun v H1 H2 e1 e2 h Q q => ?_)))) rfl)) rfl) fun H1 e1 => ?_
    · refine ev_evp (evp_callA (vs := [.ref p, vI u]) (va2 rfl rfl) (fun H2 e2 Q q => ⟨L, p, u, rfl, hC.ex (e1.trans e2), fun H3 e3 => q _ H3 e3 ?_⟩) (fun _ _ _ _ _ _ _ h => h))
      show V.bl _ = V.bl true
      rw [decide_eq_true (m.lt hu)]
    · obtain ⟨D, rfl, hD0, hD⟩ := h
      refine ⟨D, (ps.filter fun _ => true).map fun _ => true, rfl, Evl.sq_of (by rw [hD, List.map_map]; rfl), q _ _ (Ex.refl _) ?_⟩
      show V.bl _ = V.bl true
      congr 1
      rw [List.all_eq_true]
      intro x hx
      obtain ⟨_, _, e⟩ := List.mem_map.mp hx
      rw [← e]
      rfl
    · have hC1 := hC.ex e1
      refine p_ret (P := Is (.bl true)) (evp_ev (Evl.ev_is (ev_opPP' (z := .bl (decide (isort ps = List.range (L.length + 1)))) (ev_sort2 (K := K) (Evl.ev_var rfl) (ha.ex e1)) (ev_range (n := L.length + 1) ?_ (by omega)) (fun v u Ha Hb Hc ea eb ⟨p1, r1, _, k1⟩ ec ⟨p2, r2, _, k2⟩ => by
        subst r1; subst r2
        exact rv_eqN (ec _ _ k1) k2)) ?_)) fun v H2 e2 hv => ?_
      · refine Evl.ev_op (x := vI L.length) (y := .int 1) (ev_evp (evp_cb1 (evp_prop (R := rLanesG) (Evl.ev_var rfl) hC1) (fun v Ha Hb _ _ h Q q => ?_))) Evl.ev_c rv_I0P
        obtain ⟨q1, rfl, _, M, ⟨ls, hq1, hls⟩, pM, _⟩ := h
        refine ⟨_, _, rfl, .inl ⟨ls, Evl.sq_of hq1, rfl⟩, q _ Hb (Ex.refl _) ?_⟩
        show V.int _ = V.int _
        rw [PySem.Paired.length hls, pM.length_eq]
        unfold norm
        rw [List.length_map]
      · congr 1
        refine decide_eq_true ?_
        have := isort_eq m.perm.symm (m := List.range (L.length + 1)) (List.pairwise_lt_range.imp fun h => Nat.le_of_lt h)
        exact this.symm
      · subst hv
        exact k H2 (e1.trans e2)
theorem ok_renamed (T : Txt K mg A) : FnOk P w K mg base CX0 6 A.renamed A.renamed_fd ["country", "places"] (spRen A.Country) := by
  refine T.F_renamed.ok sc_renamed (fun vs H Q E h => ?_) (fun cdv A' outer s H vs Q E hr h => ?_)
  · obtain ⟨L, vt, p, a, ps, rfl, _⟩ := h
    rfl
  · obtain ⟨L, vt, p, a, ps, rfl, hC, G, ha, m, k⟩ := h
    refine ⟨_, (pss_cons (ps_expr (pe_call (ok_check_country T) (hr.mono (by decide)) (by rfl) T.m_check_country T.F_check_country.kp T.b_check_country .nil pass0 (pa_cons (pv 0) pa_nil))) (pss_cons (ps_if (pt_not (pt_val (pe_call (ok_are_new_numbers T) (hr.mono (by decide)) (by rfl) T.m_are_new_numbers T.F_are_new_numbers.kp T.b_are_new_numbers .nil pass0 (pa_cons (pv 0) (pa_cons (pv 1) pa_nil))))) (pss_one ps_never) pss_nil) (pss_one (ps_ret (pe_make T.mk_Country (ok_Country_init T) (hr.mono (by decide)) (by rfl) T.m_Country T.b_Country_init .nil pass0 (pa_cons (pe_lc (own := [("one", 2), ("other", 3)]) rfl sc_renamed.nd (show PI _ _ _ (iList K _) from pi_list (pe_prop (pv 0) T.cl_Country T.pr_Country_lanes (ok_Country_lanes T) (hr.mono (by decide)) T.b_Country_lanes .nil pass0 rfl)) (blkOk_by (N := n_renamed) (sc := defScope s_renamed) (by decide +kernel)) (fun _ _ _ _ _ => (show PG _ _ (gTup K 2 _) from pg_tup rfl (pgs_cons (pg_name (i := 2) sc_renamed.nd rfl (Or.inl rfl)) (pgs_cons (pg_name (i := 3) sc_renamed.nd rfl (Or.inl rfl)) pgs_nil)))) (fun _ _ _ _ _ => pts_nil) (fun _ _ _ _ _ => (pe_tup (pa_cons (show PE _ _ (tOp (rIx K) _ _) from pe_ix ix_seq (pv 1) (pv 2) (fun _ _ => rfl)) (pa_cons (show PE _ _ (tOp (rIx K) _ _) from pe_ix ix_seq (pv 1) (pv 3) (fun _ _ => rfl)) pa_nil))))) pa_nil)))))), ?_⟩
    have hsm := G.small
    refine ev_chkC rfl hC fun H1 e1 => ?_
    refine p_skip (Evl.et_is (Evl.et_not (a := true) (evt_P (evp_callA (vs := [.ref p, .ref a]) (va2 rfl rfl) (fun H2 e2 Q q => ⟨L, p, a, ps, rfl, hC.ex (e1.trans e2), ha.ex (e1.trans e2), m, by omega, fun H3 e3 => q _ H3 e3 rfl⟩) (fun _ _ _ _ _ _ _ h => h)))) rfl) fun H2 e2 => ?_
    have x2 := e1.trans e2
    have hC2 := hC.ex x2
    have ha2 := ha.ex x2
    have num := m.num
    refine p_ret (P := NewC A.Country (ren (fOf ps) L)) ?_ fun v H3 e3 h => ?_
    · refine evp_make2 (evp_lcL (evp_prop (R := rLanesG) (Evl.ev_var rfl) hC2) (fun v Ha Hb ea eb h => ?_) (fun z Ha Hb Hc _ _ _ h => h))
      obtain ⟨q, rfl, fq, M, ⟨ls, hq, hls⟩, pM, _⟩ := h
      have S := same_of pM
      have GM : Good vt M := G.same (fun i => S.nb i) S.len
      have nM : Num M (fOf ps) := ⟨fun i hi => by rw [S.len] at hi ⊢; exact num.lt i hi, fun i j hi hj => by rw [S.len] at hi hj; exact num.inj i j hi hj⟩
      have hMl := S.len
      refine (lcT (F := fun x => (fOf ps x.1, fOf ps x.2)) (src_list (K := K) Evl.ev_c (Evl.sq_of hq)) hls (by omega) (fun x => [some (.ref p), some (.ref a), some (vI x.1), some (vI x.2)]) (fun _ => rfl) (fun x t H8 Q' _ h k => (by exact go_tup (i := 2) (j := 3) h k)) (fun x H8 hx e8 => ?_)).imp (fun v Hc Hd _ _ h => ?_)
      · have hb := GM.lt hx
        have hl := m.len
        have ha8 := ha2.ex ((ea.trans eb).trans e8)
        have it : ∀ {σ : L2.St} {j i : Nat}, σ[1]? = some (some (.ref a)) → σ[j]? = some (some (vI i)) → i < ps.length → Ev (tOp (rIx K) (tVar 1) (tVar j)) σ H8 (vI (fOf ps i)) := fun h1 h2 h3 => Evl.ev_op (Evl.ev_var h1) (Evl.ev_var h2) (rv_ixN ha8 (vIs_at h3))
        exact evp_tup (vs := [vI (fOf ps x.1), vI (fOf ps x.2)]) (Evl.ea_cons (it rfl rfl (by omega)) (Evl.ea_cons (it rfl rfl (by omega)) Evl.ea_nil)) (by show 2 ≤ 100000; decide)
      · obtain ⟨l, r, _, k⟩ := h
        exact ⟨l, ren (fOf ps) M, _, r, k, GM.ren nM, same_ren pM⟩
    · obtain ⟨q, rfl, fq, hq⟩ := h
      exact k q H3 (x2.trans e3) (Evl.fresh_back x2 fq) hq
theorem ok_l_gates (T : Txt K mg A) : FnOk P w K mg base CX0 2 A.l_gates A.l_gates_fd ["_law_lanes"] spGatesOf := by
  refine T.F_l_gates.ok sc_l_gates (fun vs H Q E h => ?_) (fun cdv A' outer s H vs Q E hr h => ?_)
  · obtain ⟨L, a, rfl, _⟩ := h
    rfl
  · obtain ⟨L, a, rfl, hL, hsm, k⟩ := h
    refine ⟨_, (pss_one (ps_ret (pe_lc (own := [("_law_place", 1)]) rfl sc_l_gates.nd (pi_range1 (by rfl) T.n_range (pa_cons (pe_op op_add (show PE _ _ (tCB (rLenA K) _) from (pe_callB (id := "len") call_len (by rfl) T.n_len (by decide +kernel) (pa_cons (pv 0) pa_nil))) pe_int) pa_nil)) (blkOk_by (N := n_l_gates) (sc := defScope s_l_gates) (by decide +kernel)) (fun _ _ _ _ _ => (pg_name (i := 1) sc_l_gates.nd rfl (Or.inl rfl))) (fun _ _ _ _ _ => (pts_one (pt_cmpR op_eq (show PE _ _ (tCB (rLenA K) _) from (pe_callB (id := "len") call_len (by rfl) T.n_len (by decide +kernel) (pa_cons (pe_call (ok_l_beside T) (hr.mono (by decide)) (by rfl) T.m_l_beside T.F_l_beside.kp T.b_l_beside .nil pass0 (pa_cons (pv 0) (pa_cons (pv 1) pa_nil))) pa_nil))) pe_int (nomark _)))) (fun _ _ _ _ _ => (pv 1))))), ?_⟩
    obtain ⟨ls, ha, hp⟩ := id hL
    have hll : ls.length = L.length := PySem.Paired.length hp
    refine p_ret (P := NewL (vIs (gatesL L))) (lcV (n := L.length + 1) (src_rng1 (n := L.length + 1) ?_ (by omega)) (by omega) (fun _ x => [some (.ref a), some x]) (fun _ _ => rfl) (fun _ _ _ _ _ _ _ q => q) (fun i => decide ((adj L i).length = 1)) (fun i => vI i) (fun i x H1 e1 hi hx => ?_) (fun i x H1 e1 hi hx _ => ?_)) fun v H1 e1 h => ?_
    · intro H1 e1 Q' q
      refine ⟨_, rfl, _, ls.length, rfl, .inl ⟨_, Evl.sq_of (e1 _ _ ha), rfl⟩, _, _, rfl, rfl, ?_⟩
      have z := q H1 (Ex.refl _)
      rw [hll]
      exact z
    · cases hx
      have hl : Ev (tCB (rLenA K) (tCons (tCall spBeside [] E0 (tCons (tVar 0) (tCons (tVar 1) tNil))) tNil)) [some (.ref a), some (vI i)] H1 (vI (adj L i).length) := by
        have := ev_lenP (K := K) (xs := vIs (adj L i)) (evp_callA (σ := [some (.ref a), some (vI i)]) (H := H1) (sp := spBeside) (E := E0) (dvs := []) (vs := [.ref a, vI i]) (ta := tCons (tVar 0) (tCons (tVar 1) tNil)) (P := fun v _ Hb => ∃ p, v = .ref p ∧ Hb p = some (.lst (vIs (adj L i)))) (va2 rfl rfl) (fun H2 e2 Q q => ⟨L, a, i, rfl, hL.ex (e1.trans e2), hsm, fun p H3 e3 _ hp => q _ H3 e3 ⟨p, rfl, hp⟩⟩) (fun _ _ _ _ _ _ _ h => h))
        rw [List.length_map] at this
        exact this
      refine Evl.et_is (Evl.et_test (Evl.ev_op hl Evl.ev_c (Evl.rv_eq rfl))) ?_
      exact is_eqN (i := (adj L i).length) (j := 1)
    · cases hx
      exact Evl.ev_var rfl
    · obtain ⟨p, rfl, hp, h⟩ := h
      exact k p H1 e1 hp h
theorem ok_l_numbers (T : Txt K mg A) : FnOk P w K mg base CX0 2 A.l_numbers A.l_numbers_fd ["_law_pot_here", "_law_many"] spNumbers := by
  refine T.F_l_numbers.ok sc_l_numbers (fun vs H Q E h => ?_) (fun cdv A' outer s H vs Q E hr h => ?_)
  · obtain ⟨p, n, rfl, _⟩ := h
    rfl
  · obtain ⟨p, n, rfl, hpot, hn, hn2, k⟩ := h
    refine ⟨_, (pss_cons (ps_par (i := 2) (j := 3) (by rfl) sc_l_numbers.nd rfl rfl (by decide) rfl rfl (pa_cons (pe_listRg rfl (by rfl) T.n_list (prg_1 (by rfl) T.n_range (pv 1))) (pa_cons (pe_lst pa_nil) pa_nil)) (by rfl)) (pss_cons (ps_set (i := 4) sc_l_numbers.nd rfl (Or.inl rfl) (pe_call (ok_l_draw T) (hr.mono (by decide)) (by rfl) T.m_l_draw T.F_l_draw.kp T.b_l_draw .nil pass0 (pa_cons (pv 0) (pa_cons pe_int pa_nil)))) (pss_cons (ps_if (pt_cmpR op_eq (pv 4) pe_int (nomark _)) (pss_one (ps_ret (pv 2))) pss_nil) (pss_cons (ps_if (pt_cmpR op_eq (pv 4) pe_int (nomark _)) (pss_cons (ps_par (i := 5) (j := 6) (by rfl) sc_l_numbers.nd rfl rfl (by decide) rfl rfl (pa_cons (pe_call (ok_l_draw T) (hr.mono (by decide)) (by rfl) T.m_l_draw T.F_l_draw.kp T.b_l_draw .nil pass0 (pa_cons (pv 0) (pa_cons (pv 1) pa_nil))) (pa_cons (pe_call (ok_l_draw T) (hr.mono (by decide)) (by rfl) T.m_l_draw T.F_l_draw.kp T.b_l_draw .nil pass0 (pa_cons (pv 0) (pa_cons (pv 1) pa_nil))) pa_nil)) (by rfl)) (pss_cons (ps_asg (pe_tup (pa_cons (show PE _ _ (tOp (rIxL K) _ _) from pe_ix ix_list (pv 2) (pv 6) (fun _ _ => rfl)) (pa_cons (show PE _ _ (tOp (rIxL K) _ _) from pe_ix ix_list (pv 2) (pv 5) (fun _ _ => rfl)) pa_nil))) (show PG _ _ (gTup K 2 _) from pg_tup rfl (pgs_cons (pg_sub (pv 2) (pv 5) set_list) (pgs_cons (pg_sub (pv 2) (pv 6) set_list) pgs_nil)))) (pss_one (ps_ret (pv 2))))) pss_nil) (pss_cons (ps_while PassesOwn.never (show PT _ _ (tTest (tOp (rNeD K) _ _)) from pt_cmpR (op_neD hr.units) (pv 2) (pe_lst pa_nil) (nomark _)) (pss_one (ps_expr (show PE _ _ (tBM K "list" rAppend _ _) from pe_bm PySem.F.plainAttrs_list PySem.F.slot_list_append PySem.F.type_list_append mt_append (pv 3) (pa_cons (show PE _ _ (tBM K "list" rPopAt _ _) from pe_bm PySem.F.plainAttrs_list PySem.F.slot_list_pop PySem.F.type_list_pop mt_popAt (pv 2) (pa_cons (pe_call (ok_l_draw T) (hr.mono (by decide)) (by rfl) T.m_l_draw T.F_l_draw.kp T.b_l_draw .nil pass0 (pa_cons (pv 0) (pa_cons (show PE _ _ (tCB (rLenA K) _) from (pe_callB (id := "len") call_len (by rfl) T.n_len (by decide +kernel) (pa_cons (pv 2) pa_nil))) pa_nil))) pa_nil)) pa_nil))))) (pss_one (ps_ret (pv 3)))))))), ?_⟩
    -- left, found = list(range(many)), []
    refine ⟨_, rfl, _, rfl, .of_le (by omega) (by omega) (by omega) (by omega), fun lf hlf => ⟨(by show 0 ≤ sizeLine; decide), fun pl hpl => ⟨_, _, rfl, ?_⟩⟩⟩
    rw [rgV_N] at hpl ⊢
    have lfp : lf ≠ p := fun e => by
      obtain ⟨_, _, z, _⟩ := hpot
      rw [e, z] at hlf
      cases hlf
    have nfq : lf ≠ pl := fun e => by rw [← e, upd_same] at hpl; cases hpl
    have pl0 : H pl = none := by rw [upd_ne nfq.symm] at hpl; exact hpl
    have plp : pl ≠ p := fun e => by
      obtain ⟨_, _, z, _⟩ := hpot
      rw [e, z] at pl0
      cases pl0
    have e0 : Ex H (upd (upd H lf (.lst (vIs (List.range n)))) pl (.lst [])) := (Ex.new hlf).trans (Ex.new hpl)
    have S0 : StN H (upd (upd H lf (.lst (vIs (List.range n)))) pl (.lst [])) p lf pl (List.range n) [] := ⟨hpot.ex e0, .of e0, by rw [upd_ne nfq, upd_same], upd_same, hlf, pl0, lfp, plp, nfq⟩
    generalize upd (upd H lf (.lst (vIs (List.range n)))) pl (.lst []) = H1 at S0
    clear e0 hpl
    -- kind
    refine ⟨_, rfl, p, 4, rfl, S0.pot, by decide, by decide, fun kd H2 hkd hp2 e2 => ?_⟩
    have S2 := S0.byPot e2 hp2
    have eqk : ∀ {σ : _root_.L2.St} {H3 : Hp} (c : Nat), σ[4]? = some (some (vI kd)) → EvT (tTest (tOp rEq (tVar 4) (tC (.int (c : Int))))) σ H3 (decide (kd = c)) := fun c h => Evl.et_is (Evl.et_test (Evl.ev_op (Evl.ev_var h) Evl.ev_c (Evl.rv_eq rfl))) is_eqN
    dsimp only
    show tSeq (tIfS _ _ tNext) _ _ ([some (.ref p), some (vI n), some (.ref lf), some (.ref pl), some (vI kd), none, none]) H2
    refine Evl.q_when (eqk 0 rfl) (fun _ H3 e3 => ?_) (fun _ H3 e3 => ?_)
    · have S3 := S2.byEx e3
      exact ⟨_, rfl, k lf (List.range n) H3 (Mixed.range n) S3.hf S3.ff S3.ex S3.pot⟩
    have S3 := S2.byEx e3
    clear S2 S0 e2 e3 hp2
    refine Evl.q_when (eqk 1 rfl) (fun _ H4 e4 => ?_) (fun _ H4 e4 => ?_)
    · have S4 := S3.byEx e4
      refine ⟨_, rfl, _, rfl, p, n, rfl, S4.pot, hn, by omega, fun i H5 hi hp5 e5 => ⟨_, rfl, _, rfl, p, n, rfl, hp5, hn, by omega, fun j H6 hj hp6 e6 => ⟨_, _, rfl, ?_⟩⟩⟩
      have S6 := (S4.byPot e5 hp5).byPot e6 hp6
      clear S4 S3 e5 e6 hp5 hp6
      have at_ : ∀ {z : Nat}, z < n → (vIs (List.range n))[z]? = some (vI z) := fun hz => by
        unfold vIs
        rw [List.getElem?_map, List.getElem?_range hz]
        rfl
      refine ⟨_, rfl, _, rfl, lf, _, _, vI j, rfl, rfl, Evl.sq_of S6.hf, at_of rfl (at_ hj), _, rfl, _, rfl, lf, _, _, vI i, rfl, rfl, Evl.sq_of S6.hf, at_of rfl (at_ hi), (by show 2 ≤ sizeLine; decide), fun t ht => ?_⟩
      have nlt : lf ≠ t := ne_of_none S6.hf ht
      have S7 := S6.byEx (Ex.new (o := .tup [vI j, vI i]) ht)
      have tt : (upd H6 t (.tup [vI j, vI i])) t = some (.tup [vI j, vI i]) := upd_same
      generalize upd H6 t (.tup [vI j, vI i]) = H7 at S7 tt
      have ll : (vIs (List.range n)).length = n := by rw [List.length_map, List.length_range]
      refine ⟨t, _, rfl, Evl.st_of tt, rfl, _, _, rfl, _, rfl, _, rfl, lf, _, (i : Int), i, rfl, rfl, S7.hf, Evl.ixN_nat (by rw [ll]; exact hi), ?_⟩
      have e1 : (vIs (List.range n)).set i (vI j) = vIs ((List.range n).set i j) := set_vIs _ _ _
      rw [e1]
      have S8 := S7.pop (l' := (List.range n).set i j)
      refine ⟨_, _, rfl, _, rfl, _, rfl, lf, _, (j : Int), j, rfl, rfl, S8.hf, Evl.ixN_nat (by rw [List.length_map, List.length_set, List.length_range]; exact hj), rfl, ?_⟩
      have e2 : (vIs ((List.range n).set i j)).set j (vI i) = vIs (((List.range n).set i j).set j i) := set_vIs _ _ _
      rw [e2]
      have S9 := S8.pop (l' := ((List.range n).set i j).set j i)
      exact ⟨_, rfl, k lf _ _ (swapped hi hj) S9.hf S9.ff S9.ex S9.pot⟩
    · have S4 := S3.byEx e4
      clear S3
      refine Evl.q_while (fun m σ' H' => ∃ l q, σ' = [some (.ref p), some (vI n), some (.ref lf), some (.ref pl), some (vI kd), none, none] ∧ StN H H' p lf pl l q ∧ (q ++ l).Perm (List.range n) ∧ m = l.length) n
        ⟨List.range n, [], rfl, S4, List.Perm.refl _, by simp⟩ (fun m σ' H5 h => ?_)
      obtain ⟨l, q, rfl, T6, pm, rfl⟩ := h
      have hql : q.length + l.length = n := by
        have := pm.length_eq
        rw [List.length_append, List.length_range] at this
        exact this
      refine ⟨!decide (l = []), Evl.et_test (fun H6 e6 Q' q' => ⟨_, rfl, (by show 0 ≤ sizeLine; decide), fun e he => ⟨dN l, dN [], dp_N (Evl.sq_of ((Ex.new he) _ _ (e6 _ _ T6.hf))), dp_N (Evl.sq_of upd_same), shaped_N _, shaped_N _, ?_⟩⟩), fun hb H6 e6 => ?_, fun hb H6 e6 => ?_⟩
      · rw [eqv_N]
        exact q' _ (Ex.new he)
      · have hne : l ≠ [] := fun e => by rw [e] at hb; cases hb
        have hpos : 0 < l.length := List.length_pos_iff.mpr hne
        have T7 := T6.byEx e6
        refine ⟨fun σ2 H7 => ∃ l' q', σ2 = [some (.ref p), some (vI n), some (.ref lf), some (.ref pl), some (vI kd), none, none] ∧ StN H H7 p lf pl l' q' ∧ (q' ++ l').Perm (List.range n) ∧ l'.length < l.length, fun σ2 H7 ⟨l', q', a1, a2, a3, a4⟩ => ⟨_, a4, l', q', a1, a2, a3, rfl⟩, ?_⟩
        refine ⟨_, rfl, .inl ⟨rfl, _, .inl (.inl T7.hp)⟩, _, rfl, .inl ⟨rfl, _, .inl (.inl T7.hf)⟩, _, rfl, _, rfl, _, _, rfl, .inl ⟨_, Evl.sq_of T7.hf, rfl⟩, p, l.length, (by rw [List.length_map]; rfl), T7.pot, hpos, by omega, fun dd H8 hdd hp8 e8 => ?_⟩
        have T8 := T7.byPot e8 hp8
        have hx : l[dd]? = some l[dd] := List.getElem?_eq_getElem hdd
        refine ⟨lf, vIs l, (dd : Int), dd, vI l[dd], rfl, rfl, T8.hf, by omega, by omega, by rw [List.length_map]; exact seqIx hdd, by rw [List.getElem?_map, hx]; rfl, ?_⟩
        rw [erase_vIs]
        have T9 := T8.pop (l' := l.eraseIdx dd)
        refine ⟨pl, vIs q, vI l[dd], rfl, rfl, T9.hp, by rw [List.length_map]; exact szN (by omega), ?_⟩
        have eq : vIs q ++ [vI l[dd]] = vIs (q ++ [l[dd]]) := by unfold vIs; rw [List.map_append]; rfl
        rw [eq]
        have T10 := T9.put (q' := q ++ [l[dd]])
        refine ⟨l.eraseIdx dd, q ++ [l[dd]], rfl, T10, ?_, by rw [List.length_eraseIdx]; rw [if_pos hdd]; omega⟩
        rw [List.append_assoc]
        exact (List.Perm.append_left q (erase_perm hx).symm).trans pm
      · have hl0 : l = [] := by
          have := of_decide_eq_true (show decide (l = []) = true by cases h : decide (l = []) with | true => rfl | false => rw [h] at hb; cases hb)
          exact this
        subst hl0
        rw [List.append_nil] at pm
        have T7 := T6.byEx e6
        exact ⟨_, rfl, k pl q H6 ⟨by simpa using hql, pm⟩ T7.hp T7.fp T7.ex T7.pot⟩
end
end K15

set_option Elab.async false
set_option linter.all false
set_option maxRecDepth 100000
set_option maxHeartbeats 4000000
namespace Pr
open PySem PySem.Spec PyProof.Rows L2 TM Ep
open Evl (Ex Ev EvT EvA EvL EvO)
/-- [f u for u in l] over places -/
theorem lcMap {wi : TI} {g : TG} {te : TE} {vs : List Nat} {σ : L2.St} {H : Hp} {l : List Nat} (s : Src wi σ H (vIs l).length (fun i v => (vIs l)[i]? = some v)) (hn : l.length ≤ 50000) (st : V → L2.St) (hw : ∀ x, wipe (st x) vs = wipe σ vs)
    (hg : ∀ x H1 Q, Ex H H1 → Q (st x) H1 → g x (wipe σ vs) H1 Q) (f : Nat → Nat) (he : ∀ u H1, u ∈ l → Ex H H1 → Ev te (st (vI u)) H1 (vI (f u))) : EvP (tLc wi g tYes te vs) σ H (NewL (vIs (l.map f))) :=
  (lcF s hn st hw hg (fun _ => true) (fun u => vI (f u)) (fun _ _ _ _ => fun H1 e Q q => q H1 (Ex.refl H1)) (fun u H1 hu e _ => he u H1 hu e)).imp fun v _ _ _ _ ⟨p, r, hp, k⟩ => ⟨p, r, hp, by
    rw [k, List.filter_eq_self.mpr (fun _ _ => rfl)]
    unfold vIs
    rw [List.map_map]
    rfl⟩
theorem evp_nbsM {K : PySem.W.Frag} {σ : L2.St} {H : Hp} {te ta : TE} {C : Addr} {L : Lanes} {p i : Nat} (h : Ev te σ H (.ref p)) (h2 : Ev ta σ H (vI i)) (hC : CAt C H p L) (hi : i < L.length + 1) : EvP (tMeth C "neighbours" (spNbs C) [] E0 te (tCons ta tNil)) σ H (NewL (vIs (adj L i))) := fun H1 e Q q =>
  h H1 e _ fun H2 e2 => by
    have hC2 := hC.ex (e.trans e2)
    obtain ⟨dx, l, d, ee, yy, g, rs, qs, ho, _⟩ := id hC2
    refine ⟨p, dx, _, rfl, ho, fl_no (by rfl), ?_⟩
    refine h2 H2 (e.trans e2) _ fun H3 e3 => ?_
    exact ⟨L, p, i, rfl, hC2.ex e3, hi, fun q' H4 e4 fq hq => q _ H4 ((e2.trans e3).trans e4) ⟨q', rfl, Evl.fresh_back (e2.trans e3) fq, hq⟩⟩
theorem ev_bes {σ : L2.St} {H : Hp} {ts : TA} {L : Lanes} {a i : Nat} (h : EvA ts σ H [.ref a, vI i]) (hL : LanesAt H a L) (hs : L.length ≤ 1000) : EvP (tCall spBeside [] E0 ts) σ H (NewL (vIs (adj L i))) :=
  evp_callA h (fun H2 e2 Q q => ⟨L, a, i, rfl, hL.ex e2, hs, fun p H3 e3 hp hp' => q _ H3 e3 ⟨p, rfl, hp, hp'⟩⟩) (fun v H1 H2 H3 _ e12 _ h => newL_back e12 h)
theorem ev_sortNew {K : PySem.W.Frag} {σ : L2.St} {H : Hp} {te : TE} {l : List Nat} (h : EvP te σ H (NewL (vIs l))) : EvP (tCB (rSortedI K) (tCons te tNil)) σ H (NewL (vIs (isort l))) := ev_sortN (h.imp fun v _ _ _ _ ⟨p, r, _, k⟩ => ⟨p, r, k⟩)
theorem rv_neNew {K : PySem.W.Frag} {H Ha Hb Hc : Hp} {l m : List Nat} {v u : V} (e : Ex Hb Hc) (h1 : NewL (vIs l) v Ha Hb) (h2 : NewL (vIs m) u Hb Hc) : Evl.RV (rNeD K) v u Hc (.bl (!decide (l = m))) := by
  obtain ⟨p1, r1, _, k1⟩ := h1
  obtain ⟨p2, r2, _, k2⟩ := h2
  subst r1; subst r2
  exact rv_neN (e _ _ k1) k2
theorem rv_eqNew {K : PySem.W.Frag} {H Ha Hb Hc : Hp} {l m : List Nat} {v u : V} (e : Ex Hb Hc) (h1 : NewL (vIs l) v Ha Hb) (h2 : NewL (vIs m) u Hb Hc) : Evl.RV (rEqD K) v u Hc (.bl (decide (l = m))) := by
  obtain ⟨p1, r1, _, k1⟩ := h1
  obtain ⟨p2, r2, _, k2⟩ := h2
  subst r1; subst r2
  exact rv_eqN (e _ _ k1) k2
end Pr
namespace K15
open PySem PySem.Spec PyProof.Rows L2 TM Pr Ep
open Evl (Ex Ev EvT EvA EvL EvO)
section
variable {P : Program} {w : World} {K : PySem.W.Frag} {mg : Str → Option Value} {base : Heap} {A : Adr}
def kg : List Value → List Value → List Value
  | [], [a, b] => [b, a]
  | _, _ => []
def kgV : List V → List V → List V
  | [], [a, b] => [b, a]
  | _, _ => []
theorem kg_rel {vs : List V} {us : List Value} {zs : List V} {ws : List Value} (r1 : Vals vs us) (r2 : Vals zs ws) : Vals (kgV vs zs) (kg us ws) := by
  cases r1 with
  | nil =>
    match zs, ws, r2 with
    | [], _, .nil => exact .nil
    | [_], _, .cons _ .nil => exact .nil
    | [_, _], _, .cons a (.cons b .nil) => exact .cons b (.cons a .nil)
    | _ :: _ :: _ :: _, _, .cons _ (.cons _ (.cons _ _)) => exact .nil
  | cons a r => exact .nil
theorem KB_renamed (T : Txt K mg A) : KBinds K A.renamed_fd ["country", "places"] ["places", "country"] kg kgV := by
  obtain ⟨oc, od, kV, doc, pm, an, cdv, ct, osl, e, lk, hcd⟩ := T.F_renamed.ex
  refine ⟨fun s us ws hk hl => ?_, kg_rel⟩
  cases us with
  | cons u us => cases hl
  | nil =>
    match ws, hl with
    | [a, b], hl =>
      rw [e]
      exact BindsTo.of_eq rfl
theorem ok_l_led_right (T : Txt K mg A) : FnOk P w K mg base CX0 8 A.l_led_right A.l_led_right_fd ["_law_country", "_law_late", "_law_places", "_law_lanes", "_law_one", "_law_other"] (spLed A.Country) := by
  refine T.F_l_led_right.ok sc_l_led_right (fun vs H Q E h => ?_) (fun cdv A' outer s H vs Q E hr h => ?_)
  · obtain ⟨L, vt, c, e, a, ps, b, s, t, rfl, _⟩ := h
    rfl
  · obtain ⟨L, vt, c, e, a, ps, b, st, en, rfl, hC, hE, ha, m, hL, G, hs, he, k⟩ := h
    refine ⟨_, (pss_cons (ps_if (show PT _ _ (tTest (tOp (rNeD K) _ _)) from pt_cmpR (op_neD hr.units) (pe_call (ok_way T) (hr.mono (by decide)) (by rfl) T.m_way T.F_way.kp T.b_way .nil pass0 (pa_cons (pv 1) (pa_cons (show PE _ _ (tOp (rIxL K) _ _) from pe_ix ix_list (pv 2) (pv 4) (fun _ _ => rfl)) (pa_cons (show PE _ _ (tOp (rIxL K) _ _) from pe_ix ix_list (pv 2) (pv 5) (fun _ _ => rfl)) pa_nil)))) (pe_lc (own := [("_law_place", 7)]) rfl sc_l_led_right.nd (show PI _ _ _ (iList K _) from pi_list (pe_call (ok_way T) (hr.mono (by decide)) (by rfl) T.m_way T.F_way.kp T.b_way .nil pass0 (pa_cons (pv 0) (pa_cons (pv 4) (pa_cons (pv 5) pa_nil))))) (blkOk_by (N := n_l_led_right) (sc := defScope s_l_led_right) (by decide +kernel)) (fun _ _ _ _ _ => (pg_name (i := 7) sc_l_led_right.nd rfl (Or.inl rfl))) (fun _ _ _ _ _ => pts_nil) (fun _ _ _ _ _ => (show PE _ _ (tOp (rIxL K) _ _) from pe_ix ix_list (pv 2) (pv 7) (fun _ _ => rfl)))) (nomark _)) (pss_one (ps_ret pe_bl)) pss_nil) (pss_cons (ps_if (pt_cmpR op_ne (pe_call (ok_distance T) (hr.mono (by decide)) (by rfl) T.m_distance T.F_distance.kp T.b_distance .nil pass0 (pa_cons (pv 1) (pa_cons (show PE _ _ (tOp (rIxL K) _ _) from pe_ix ix_list (pv 2) (pv 4) (fun _ _ => rfl)) (pa_cons (show PE _ _ (tOp (rIxL K) _ _) from pe_ix ix_list (pv 2) (pv 5) (fun _ _ => rfl)) pa_nil)))) (pe_call (ok_distance T) (hr.mono (by decide)) (by rfl) T.m_distance T.F_distance.kp T.b_distance .nil pass0 (pa_cons (pv 0) (pa_cons (pv 4) (pa_cons (pv 5) pa_nil)))) (nomark _)) (pss_one (ps_ret pe_bl)) pss_nil) (pss_cons (ps_if (PW.pt (pw_and (pt_cmpR op_ne (pv 4) (pv 5) (nomark _)) (pw_and1 (pt_cmpR op_ne (pe_call (ok_next_place T) (hr.mono (by decide)) (by rfl) T.m_next_place T.F_next_place.kp T.b_next_place .nil pass0 (pa_cons (pv 1) (pa_cons (show PE _ _ (tOp (rIxL K) _ _) from pe_ix ix_list (pv 2) (pv 4) (fun _ _ => rfl)) (pa_cons (show PE _ _ (tOp (rIxL K) _ _) from pe_ix ix_list (pv 2) (pv 5) (fun _ _ => rfl)) pa_nil)))) (show PE _ _ (tOp (rIxL K) _ _) from pe_ix ix_list (pv 2) (pe_call (ok_next_place T) (hr.mono (by decide)) (by rfl) T.m_next_place T.F_next_place.kp T.b_next_place .nil pass0 (pa_cons (pv 0) (pa_cons (pv 4) (pa_cons (pv 5) pa_nil)))) (fun _ _ => rfl)) (nomark _))))) (pss_one (ps_ret pe_bl)) pss_nil) (pss_cons (ps_if (show PT _ _ (tTest (tOp (rNeD K) _ _)) from pt_cmpR (op_neD hr.units) (pe_meth (pv 1) T.cl_Country T.me_Country_neighbours (ok_Country_neighbours T) (hr.mono (by decide)) T.b_Country_neighbours .nil pass0 (pa_cons (show PE _ _ (tOp (rIxL K) _ _) from pe_ix ix_list (pv 2) (pv 4) (fun _ _ => rfl)) pa_nil)) (show PE _ _ (tCB (rSortedI K) _) from (pe_callB (id := "sorted") cr_sortedI (by rfl) T.n_sorted (by decide +kernel) (pa_cons (pe_lc (own := [("_law_place", 7)]) rfl sc_l_led_right.nd (show PI _ _ _ (iList K _) from pi_list (pe_meth (pv 0) T.cl_Country T.me_Country_neighbours (ok_Country_neighbours T) (hr.mono (by decide)) T.b_Country_neighbours .nil pass0 (pa_cons (pv 4) pa_nil))) (blkOk_by (N := n_l_led_right) (sc := defScope s_l_led_right) (by decide +kernel)) (fun _ _ _ _ _ => (pg_name (i := 7) sc_l_led_right.nd rfl (Or.inl rfl))) (fun _ _ _ _ _ => pts_nil) (fun _ _ _ _ _ => (show PE _ _ (tOp (rIxL K) _ _) from pe_ix ix_list (pv 2) (pv 7) (fun _ _ => rfl)))) pa_nil))) (nomark _)) (pss_one (ps_ret pe_bl)) pss_nil) (pss_cons (ps_if (pt_cmpR op_lt (show PE _ _ (tCB (rLenA K) _) from (pe_callB (id := "len") call_len (by rfl) T.n_len (by decide +kernel) (pa_cons (pe_call (ok_l_beside T) (hr.mono (by decide)) (by rfl) T.m_l_beside T.F_l_beside.kp T.b_l_beside .nil pass0 (pa_cons (pv 3) (pa_cons (pv 4) pa_nil))) pa_nil))) pe_int (nomark _)) (pss_one (ps_ret pe_bl)) pss_nil) (pss_cons (ps_set (i := 6) sc_l_led_right.nd rfl (Or.inl rfl) (show PE _ _ (tOp (rIxL K) _ _) from pe_ix ix_list (pe_call (ok_l_beside T) (hr.mono (by decide)) (by rfl) T.m_l_beside T.F_l_beside.kp T.b_l_beside .nil pass0 (pa_cons (pv 3) (pa_cons (pv 4) pa_nil))) pe_int (fun _ _ => rfl))) (pss_one (ps_ret (show PE _ _ (tOp (rEqD K) _ _) from pe_cmpR (op_eqD hr.units) (pe_call (ok_behind T) (hr.mono (by decide)) (by rfl) T.m_behind T.F_behind.kp T.b_behind .nil pass0 (pa_cons (pv 1) (pa_cons (show PE _ _ (tOp (rIxL K) _ _) from pe_ix ix_list (pv 2) (pv 4) (fun _ _ => rfl)) (pa_cons (show PE _ _ (tOp (rIxL K) _ _) from pe_ix ix_list (pv 2) (pv 6) (fun _ _ => rfl)) pa_nil)))) (show PE _ _ (tCB (rSortedI K) _) from (pe_callB (id := "sorted") cr_sortedI (by rfl) T.n_sorted (by decide +kernel) (pa_cons (pe_lc (own := [("_law_place", 7)]) rfl sc_l_led_right.nd (show PI _ _ _ (iList K _) from pi_list (pe_call (ok_behind T) (hr.mono (by decide)) (by rfl) T.m_behind T.F_behind.kp T.b_behind .nil pass0 (pa_cons (pv 0) (pa_cons (pv 4) (pa_cons (pv 6) pa_nil))))) (blkOk_by (N := n_l_led_right) (sc := defScope s_l_led_right) (by decide +kernel)) (fun _ _ _ _ _ => (pg_name (i := 7) sc_l_led_right.nd rfl (Or.inl rfl))) (fun _ _ _ _ _ => pts_nil) (fun _ _ _ _ _ => (show PE _ _ (tOp (rIxL K) _ _) from pe_ix ix_list (pv 2) (pv 7) (fun _ _ => rfl)))) pa_nil))) (nomark _)))))))))), ?_⟩
    have hsm := G.small
    have num := m.num
    have GR := G.ren num
    have hpl := m.len
    obtain ⟨W, PW, inW⟩ := G.tr.conn hs he
    have PR := path_led num G hs he PW
    obtain ⟨wl, ws⟩ := path_len G hs he PW
    have lt : ∀ {i : Nat}, i ∈ vt → i < ps.length := fun h => by rw [hpl]; exact (G.vs_ _).mp h
    have inR : ∀ {i : Nat}, i ∈ vt → fOf ps i ∈ vt.map (fOf ps) := fun h => List.mem_map.mpr ⟨_, h, rfl⟩
    have it : ∀ {σ : L2.St} {H8 : Hp} {te : TE} {i : Nat}, σ[2]? = some (some (.ref a)) → Ex H H8 → Ev te σ H8 (vI i) → i ∈ vt → Ev (tOp (rIxL K) (tVar 2) te) σ H8 (vI (fOf ps i)) := fun h1 e8 h2 h3 => Evl.ev_op (Evl.ev_var h1) h2 (Evl.rv_ixL (Evl.sq_of (e8 _ _ ha)) (at_of rfl (vIs_at (lt h3))))
    have led : ∀ {y7 : Option V} {H1 : Hp}, Ex H H1 → EvA (tCons (tVar 1) (tCons (tOp (rIxL K) (tVar 2) (tVar 4)) (tCons (tOp (rIxL K) (tVar 2) (tVar 5)) tNil))) [some (.ref c), some (.ref e), some (.ref a), some (.ref b), some (vI st), some (vI en), none, y7] H1 [.ref e, vI (fOf ps st), vI (fOf ps en)] := fun e1 => Evl.ea_cons (Evl.ev_var rfl) (Evl.ea_cons (it rfl e1 (Evl.ev_var rfl) hs) (Evl.ea_cons (it rfl e1 (Evl.ev_var rfl) he) Evl.ea_nil))
    -- ways
    refine p_skip (Evl.et_is (Evl.et_test (ev_opPP' (z := .bl (!decide (W.map (fOf ps) = W.map (fOf ps)))) (ev_along (led (Ex.refl _)) hE GR (inR hs) (inR he) PR)
      (lcMap (src_listN (K := K) (oldL (ev_along (va3 rfl rfl rfl) hC G hs he PW))) (by omega) (fun x => [some (.ref c), some (.ref e), some (.ref a), some (.ref b), some (vI st), some (vI en), none, some x]) (fun _ => rfl) (fun _ _ _ _ q => q) (fOf ps) (fun u H1 hu e1 => it rfl e1 (Evl.ev_var rfl) (inW u hu))) (fun v u Ha Hb Hc _ eb p1 ec p2 => rv_neNew (H := H) ec p1 p2))) (by simp)) fun H1 e1 => ?_
    -- distances
    refine p_skip (Evl.et_is (Evl.et_test (Evl.ev_op (ev_long (led e1) (hE.ex e1) GR (inR hs) (inR he) PR) (ev_long (va3 rfl rfl rfl) (hC.ex e1) G hs he PW) (Evl.rv_ne rfl))) (by rw [List.length_map]; simp)) fun H2 e2 => ?_
    have x2 := e1.trans e2
    -- next places
    refine p_skip (Evl.et_is (Evl.et_and (a := !decide (st = en)) (b := false) (Evl.et_is (Evl.et_test (Evl.ev_op (Evl.ev_var rfl) (Evl.ev_var rfl) (Evl.rv_ne rfl))) (by rw [is_eqN])) fun hb => ?_) (Bool.and_false _)) fun H3 e3 => ?_
    · have ne : st ≠ en := fun e => by rw [decide_eq_true e] at hb; cases hb
      have ne' : fOf ps st ≠ fOf ps en := fun z => ne (num.on G _ hs _ he z)
      obtain ⟨h, r, eW⟩ : ∃ h r, W = st :: h :: r := by
        cases W with
        | nil => have := PW.hd; cases this
        | cons x r =>
          have e : x = st := Option.some.inj PW.hd
          subst e
          cases r with
          | nil => exact absurd (Option.some.inj PW.lt) ne
          | cons h r => exact ⟨h, r, rfl⟩
      have PR' : Path (ren (fOf ps) L) (fOf ps st) (fOf ps en) (fOf ps st :: fOf ps h :: r.map (fOf ps)) := by
        have := PR
        rw [eW] at this
        exact this
      exact Evl.et_is (Evl.et_test (Evl.ev_op (ev_nextP (led x2) (hE.ex x2) GR (inR hs) (inR he) ne' PR') (it rfl x2 (ev_nextP (va3 rfl rfl rfl) (hC.ex x2) G hs he ne (eW ▸ PW)) (inW h (by rw [eW]; simp))) (Evl.rv_ne rfl))) (by simp)
    have x3 := x2.trans e3
    -- neighbours
    refine p_skip (Evl.et_is (Evl.et_test (ev_opPP' (z := .bl (!decide (adj (ren (fOf ps) L) (fOf ps st) = isort ((adj L st).map (fOf ps))))) (evp_nbsM (K := K) (Evl.ev_var rfl) (it rfl x3 (Evl.ev_var rfl) hs) (hE.ex x3) ((GR.vs_ _).mp (inR hs)))
      (ev_sortNew (lcMap (src_listN (K := K) (oldL (evp_nbsM (K := K) (Evl.ev_var rfl) (Evl.ev_var rfl) (hC.ex x3) ((G.vs_ _).mp hs)))) (by have := G.deg st; omega) (fun x => [some (.ref c), some (.ref e), some (.ref a), some (.ref b), some (vI st), some (vI en), none, some x]) (fun _ => rfl) (fun _ _ _ _ q => q) (fOf ps) (fun u H1 hu e1 => it rfl (x3.trans e1) (Evl.ev_var rfl) (adj_vs G hu)))) (fun v u Ha Hb Hc _ eb p1 ec p2 => rv_neNew (H := H) ec p1 p2))) (by rw [ren_adj (f := fOf ps) G.tr (num.on G) hs]; simp only [eq_self, decide_true, Bool.not_true])) fun H4 e4 => ?_
    have x4 := x3.trans e4
    -- one lane only
    have hbl : ∀ {H5 : Hp}, Ex H H5 → Ev (tCB (rLenA K) (tCons (tCall spBeside [] E0 (tCons (tVar 3) (tCons (tVar 4) tNil))) tNil)) [some (.ref c), some (.ref e), some (.ref a), some (.ref b), some (vI st), some (vI en), none, none] H5 (vI (adj L st).length) := fun x5 => by
      have := ev_lenP (K := K) (oldL (ev_bes (σ := [some (.ref c), some (.ref e), some (.ref a), some (.ref b), some (vI st), some (vI en), none, none]) (ts := tCons (tVar 3) (tCons (tVar 4) tNil)) (va2 rfl rfl) (hL.ex x5) hsm (i := st)))
      rw [List.length_map] at this
      exact this
    refine Evl.q_when (b := decide ((adj L st).length < 2)) (Evl.et_is (Evl.et_test (Evl.ev_op (hbl x4) Evl.ev_c rv_I0P)) ?_) (fun _ H5 e5 => k H5 (x4.trans e5)) (fun hb H5 e5 => ?_)
    · exact decide_eq_decide.mpr (by omega)
    have x5 := x4.trans e5
    have two : ¬ (adj L st).length < 2 := of_decide_eq_false hb
    obtain ⟨tg, rest, eT⟩ : ∃ tg rest, adj L st = tg :: rest := by
      cases e : adj L st with
      | nil => rw [e] at two; exact absurd (by decide) two
      | cons x r => exact ⟨x, r, rfl⟩
    have hy : st ∈ yardsL L := mem_yards.mpr ⟨(G.vs_ _).mp hs, by rw [adj_length] at two; omega⟩
    have ht : tg ∈ adj L st := by rw [eT]; exact List.mem_cons_self
    refine p_asg (P := Is (vI tg)) (evp_ev (ev_opP (ev_bes (va2 rfl rfl) (hL.ex x5) hsm (i := st)) Evl.ev_c (fun v Ha Hb ea eb ⟨p, r, _, kk⟩ => by
      subst r
      exact Evl.rv_ixL (Evl.sq_of kk) (at_of (j := 0) rfl (by rw [eT]; rfl))))) fun v H6 e6 hv => ?_
    subst hv
    have x6 := x5.trans e6
    show tRet _ _ ([some (.ref c), some (.ref e), some (.ref a), some (.ref b), some (vI st), some (vI en), some (vI tg), none]) H6
    obtain ⟨N, I⟩ := next_is G.tr
    obtain ⟨N', I'⟩ := next_is GR.tr
    refine p_ret (P := Is (.bl true)) (evp_ev (Evl.ev_is (ev_opPP' (z := .bl (decide (bh (ren (fOf ps) L) N' (fOf ps st) (fOf ps tg) = isort ((bh L N st tg).map (fOf ps))))) (ev_beh (hE.ex x6) GR I' (yard_led num G hy) (adj_led num G ht) (Evl.ea_cons (Evl.ev_var rfl) (Evl.ea_cons (it rfl x6 (Evl.ev_var rfl) hs) (Evl.ea_cons (it rfl x6 (Evl.ev_var rfl) (adj_vs G ht)) Evl.ea_nil))))
      (ev_sortNew (lcMap (src_listN (K := K) (oldL (ev_beh (hC.ex x6) G I hy ht (va3 rfl rfl rfl)))) (by have := bh_len (N := N) G st tg; omega) (fun x => [some (.ref c), some (.ref e), some (.ref a), some (.ref b), some (vI st), some (vI en), some (vI tg), some x]) (fun _ => rfl) (fun _ _ _ _ q => q) (fOf ps) (fun u H1 hu e1 => it rfl (x6.trans e1) (Evl.ev_var rfl) (yard_vs G (mem_bh.mp hu).1)))) (fun v u Ha Hb Hc _ eb p1 ec p2 => rv_eqNew (H := H) ec p1 p2)) (by rw [bh_led (f := fOf ps) num G I I' hy ht]; simp only [eq_self, decide_true]))) fun v H7 e7 hv => ?_
    subst hv
    exact k H7 (x6.trans e7)
end
end K15

set_option Elab.async false
set_option linter.all false
set_option maxRecDepth 100000
set_option maxHeartbeats 4000000
namespace Pr
open PySem PySem.Spec PyProof.Rows L2 TM Ep
open Evl (Ex Ev EvT EvA EvL EvO)
theorem butB {H : Hp} {p : Addr} : ExB p H (but H p) := fun b o h n => but_ne h n
theorem LanesAt.but {H : Hp} {p a : Addr} {L : Lanes} (hp : PotAt H p) (n : a ≠ p) (h : LanesAt H a L) : LanesAt (but H p) a L := h.exB butB hp n
theorem pot_new {H : Hp} {p q : Addr} (hp : PotAt H p) (h : H q = none) : q ≠ p := fun z => by
  obtain ⟨_, _, k, _⟩ := hp
  rw [z, k] at h
  cases h
section
variable {K : PySem.W.Frag} {σ : L2.St} {H : Hp} {te ta tb : TE} {D : Ends} {tz : TS} {i j : Nat} {p C : Addr} {L : Lanes} {y : V}
theorem evp_lockC (hp : PotAt H p) (h : ∀ Ha, Ex (but H p) Ha → EvP te σ Ha (NewC C L)) : EvP (tLockE te) σ H (NewC C L) := fun H1 e Q q =>
  lockC (hp.ex e) (fun Ha ea => h Ha ((but_in e).trans ea)) fun x H2 fx _ e2 hC => q _ H2 e2 ⟨x, rfl, fx, hC.ex but_ex⟩
theorem p_parC (hp : PotAt H p) (h : ∀ Ha, Ex (but H p) Ha → EvP te σ Ha (NewC C L)) (hb : Ev tb σ H y) (k : ∀ x H', H x = none → x ≠ p → Ex H H' → CAt C (but H' p) x L → tz D ((σ.set i (some (.ref x))).set j (some y)) H') : tSeq (tPar i j (tCons (tLockE te) (tCons tb tNil))) tz D σ H := by
  unfold tSeq tPar tCons
  exact lockC hp h fun x H1 fx nx e1 hC => hb H1 e1 _ fun H2 e2 => ⟨_, _, rfl, k x H2 fx nx (e1.trans e2) (hC.ex (but_in e2))⟩
theorem p_parC' (hp : PotAt H p) (h : ∀ Ha, Ex (but H p) Ha → EvP te σ Ha (NewC C L)) (hb : Ev tb σ H y) (k : ∀ x H', H x = none → x ≠ p → Ex H H' → CAt C (but H' p) x L → tz D ((σ.set i (some y)).set j (some (.ref x))) H') : tSeq (tPar i j (tCons tb (tCons (tLockE te) tNil))) tz D σ H := by
  unfold tSeq tPar tCons
  exact hb H (Ex.refl H) _ fun H1 e1 => lockC (hp.ex e1) (fun Ha ea => h Ha ((but_in e1).trans ea)) fun x H2 fx nx e2 hC => ⟨_, _, rfl, k x H2 (Evl.fresh_back e1 fx) nx (e1.trans e2) hC⟩
/-- pairs, sorted -/
theorem ev_sortP {N : Lanes} (h : EvP te σ H (fun v _ Hb => ∃ a, v = .ref a ∧ LanesAt Hb a N)) : EvP (tCB (rSortedPO K) (tCons te tNil)) σ H (fun v Ha Hb => ∃ l M, v = .ref l ∧ Ha l = none ∧ LanesAt Hb l M ∧ M.Perm N ∧ LexS M) :=
  evp_cb1 h fun v Ha Hb _ eab h Q q => by
    obtain ⟨D, rfl, ys, hD, hp⟩ := h
    refine ⟨D, ys, pairOf Hb, rfl, Evl.sq_of hD, fun x hx => ?_, fun zs l sd st hl => ?_⟩
    · obtain ⟨q, hq⟩ := paired_mem hp hx
      have e := pairOf_at hq
      obtain ⟨t, r, h⟩ := hq
      exact ⟨t, r, by rw [e]; exact h⟩
    · let f : V → Nat × Nat := fun v => ((pairOf Hb v).1.toNat, (pairOf Hb v).2.toNat)
      have f_at : ∀ v q, PairAt Hb v q → f v = q := fun v q h => by
        show ((pairOf Hb v).1.toNat, (pairOf Hb v).2.toNat) = q
        rw [pairOf_at h]
        simp
      have em : ys.map f = N := map_paired f_at hp
      refine q _ _ (Ex.new hl) ⟨l, zs.map f, rfl, Evl.fresh_back eab hl, ⟨zs, upd_same, paired_map fun x hx => ?_⟩, ?_⟩
      · obtain ⟨q', hq'⟩ := paired_mem hp (st.perm.mem_iff.mp hx)
        rw [f_at x q' hq']
        exact hq'.ex (Ex.new hl)
      · refine ⟨by rw [← em]; exact st.perm.map f, ?_⟩
        have h2 : ∀ x ∈ zs, ∃ q, PairAt Hb x q := fun x hx => (paired_mem hp (st.perm.mem_iff.mp hx))
        have h3 := List.Pairwise.and_mem.mp sd
        refine List.pairwise_map.mpr (h3.imp fun {x y} ⟨hx, hy, z⟩ => ?_)
        obtain ⟨p1, k1⟩ := h2 x hx
        obtain ⟨p2, k2⟩ := h2 y hy
        rw [f_at x p1 k1, f_at y p2 k2]
        have z' := SrtO.lexB_no.mp z
        rw [pairOf_at k1, pairOf_at k2] at z'
        unfold lexLe
        simp only at z'
        omega
theorem eqV_N {i j : Nat} : eqV (vI i) (vI j) = decide (i = j) := by
  show (((i : Int) == (j : Int)) : Bool) = _
  by_cases h : i = j
  · subst h
    simp
  · rw [decide_eq_false h, beq_eq_false_iff_ne]
    omega
theorem ev_index {a : Addr} {l : List Nat} {x : Nat} (h : Ev ta σ H (.ref a)) (ha : H a = some (.lst (vIs l))) (hb : Ev tb σ H (vI x)) (m : x ∈ l) : Ev (tBM K "list" (rIndex K) ta (tCons tb tNil)) σ H (vI (l.idxOf x)) := fun H1 e Q q =>
  h H1 e _ fun H2 e2 => ⟨.inl ⟨rfl, _, .inl (.inl ((e.trans e2) _ _ ha))⟩, hb H2 (e.trans e2) _ fun H3 e3 => by
    have hl : l.idxOf x < l.length := List.idxOf_lt_length_of_mem m
    refine ⟨a, vIs l, vI x, l.idxOf x, vI x, rfl, rfl, Evl.sq_of (((e.trans e2).trans e3) _ _ ha), rfl, flat_vIs _, ?_, ?_, fun k z hk hz => ?_, q H3 (e2.trans e3)⟩
    · unfold vIs
      rw [List.getElem?_map, List.getElem?_eq_getElem hl, List.getElem_idxOf]
      rfl
    · rw [eqV_N]
      simp
    · have hk2 : k < l.length := by omega
      have : z = vI l[k] := by
        unfold vIs at hz
        rw [List.getElem?_map, List.getElem?_eq_getElem hk2] at hz
        exact (Option.some.inj hz).symm
      rw [this, eqV_N]
      have first := List.not_of_lt_findIdx (p := (· == x)) (xs := l) hk
      exact decide_eq_false fun z => by rw [z] at first; simp at first⟩
end
end Pr
namespace K15
open PySem PySem.Spec PyProof.Rows L2 TM Pr Ep
open Evl (Ex Ev EvT EvA EvL EvO)
section
variable {P : Program} {w : World} {K : PySem.W.Frag} {mg : Str → Option Value} {base : Heap} {A : Adr}
end
end K15

set_option Elab.async false
set_option linter.all false
set_option maxRecDepth 100000
set_option maxHeartbeats 4000000
namespace Pr
open PySem PySem.Spec PyProof.Rows L2 TM Ep
open Evl (Ex Ev EvT EvA EvL EvO)
theorem ev_ownGates {σ : L2.St} {H : Hp} {ta : TA} {L : Lanes} {a : Addr} (h : EvA ta σ H [.ref a]) (hL : LanesAt H a L) (hs : L.length ≤ 1000) : EvP (tCall spGatesOf [] E0 ta) σ H (NewL (vIs (gatesL L))) :=
  evp_callA h (fun H2 e2 Q q => ⟨L, a, rfl, hL.ex e2, hs, fun p H3 e3 hp hp' => q _ H3 e3 ⟨p, rfl, hp, hp'⟩⟩) (fun v H1 H2 H3 _ e12 _ h => newL_back e12 h)
theorem ev_ownYards {σ : L2.St} {H : Hp} {ta : TA} {L : Lanes} {a : Addr} (h : EvA ta σ H [.ref a]) (hL : LanesAt H a L) (hs : L.length ≤ 1000) : EvP (tCall spYardsOf [] E0 ta) σ H (NewL (vIs (yardsL L))) :=
  evp_callA h (fun H2 e2 Q q => ⟨L, a, rfl, hL.ex e2, hs, fun p H3 e3 hp hp' => q _ H3 e3 ⟨p, rfl, hp, hp'⟩⟩) (fun v H1 H2 H3 _ e12 _ h => newL_back e12 h)
theorem ev_opP2 {K : PySem.W.Frag} {σ : L2.St} {H : Hp} {ta tb : TE} {r : R2} {x z : V} {P : VP} (ha : Ev ta σ H x) (hb : EvP tb σ H P) (hr : ∀ v H1 H2, Ex H H1 → Ex H1 H2 → P v H1 H2 → Evl.RV r x v H2 z) : Ev (tOp r ta tb) σ H z := fun H0 e Q q =>
  ha H0 e _ fun H1 e1 => hb H1 (e.trans e1) _ fun v H2 e2 p => hr v H1 H2 (e.trans e1) e2 p H2 (Ex.refl _) Q fun H3 e3 => q H3 ((e1.trans e2).trans e3)
theorem rv_notB {H : Hp} {a b : Bool} : Evl.RV rNotB (.bl a) (.bl b) H (.bl (!decide (a = b))) := fun H1 e Q q => ⟨a, b, rfl, rfl, q H1 (Ex.refl _)⟩
theorem rv_eqB {H : Hp} {a b : Bool} : Evl.RV rEq (.bl a) (.bl b) H (.bl (decide (a = b))) := fun H1 e Q q => ⟨rfl, by
  have : decide (V.bl a = V.bl b) = decide (a = b) := by cases a <;> cases b <;> decide
  rw [this]
  exact q H1 (Ex.refl _)⟩
theorem rv_neNew' {K : PySem.W.Frag} {Hc : Hp} {l m : List Nat} {v u : V} (h1 : ∃ q, v = .ref q ∧ Hc q = some (.lst (vIs l))) (h2 : ∃ q, u = .ref q ∧ Hc q = some (.lst (vIs m))) : Evl.RV (rNeD K) v u Hc (.bl (!decide (l = m))) := by
  obtain ⟨p1, r1, k1⟩ := h1
  obtain ⟨p2, r2, k2⟩ := h2
  subst r1; subst r2
  exact rv_neN k1 k2
end Pr
namespace K15
open PySem PySem.Spec PyProof.Rows L2 TM Pr Ep
open Evl (Ex Ev EvT EvA EvL EvO)
section
variable {P : Program} {w : World} {K : PySem.W.Frag} {mg : Str → Option Value} {base : Heap} {A : Adr}
theorem evp_renK {σ : L2.St} {H : Hp} {C : Addr} {L : Lanes} {vt ps : List Nat} {p : Addr} {ta tb : TE} (ha : EvP ta σ H (fun v _ Hb => ∃ q, v = .ref q ∧ LT Hb q (vIs ps))) (hb : Ev tb σ H (.ref p)) (hC : CAt C H p L) (G : Good vt L) (m : Mixed (L.length + 1) ps) : EvP (tCallK (spRen C) kgV E0 tNil (tCons ta (tCons tb tNil))) σ H (NewC C (ren (fOf ps) L)) := fun H1 e Q q =>
  ha H1 e _ fun v H2 e2 ⟨a', r, hl⟩ => hb H2 (e.trans e2) _ fun H3 e3 => by
    subst r
    exact ⟨L, vt, p, a', ps, rfl, hC.ex ((e.trans e2).trans e3), G, hl.ex e3, m, fun x H4 e4 fx hx => q _ H4 ((e2.trans e3).trans e4) ⟨x, rfl, Evl.fresh_back (e2.trans e3) fx, hx⟩⟩
theorem ok_l_right (T : Txt K mg A) : G8.FnOkG P w K mg base CX0 9 A.l_right A.l_right_fd ["_law_pot_here"] spRight := by
  refine G8.okG T.F_l_right sc_l_right (fun vs H Q E h => ?_) (fun cdv A' outer s H vs Q E hr hG h => ?_)
  · obtain ⟨p, rfl, _⟩ := h
    rfl
  · obtain ⟨p, rfl, hp, k⟩ := h
    refine ⟨_, (pss_cons (ps_set (i := 1) sc_l_right.nd rfl (Or.inl rfl) (pe_call (ok_l_drawn T) (hr.mono (by decide)) (by rfl) T.m_l_drawn T.F_l_drawn.kp T.b_l_drawn .nil pass0 (pa_cons (pv 0) (pa_cons pe_int pa_nil)))) (pss_cons (ps_par (i := 2) (j := 3) (by rfl) sc_l_right.nd rfl rfl (by decide) rfl rfl (pa_cons (pe_lock (pe_make T.mk_Country (ok_Country_init T) (hr.mono (by decide)) (by rfl) T.m_Country T.b_Country_init .nil pass0 (pa_cons (pv 1) pa_nil))) (pa_cons (pe_op op_add (show PE _ _ (tCB (rLenA K) _) from (pe_callB (id := "len") call_len (by rfl) T.n_len (by decide +kernel) (pa_cons (pv 1) pa_nil))) pe_int) pa_nil)) (by rfl)) (pss_cons (ps_set (i := 4) sc_l_right.nd rfl (Or.inr rfl) (pe_call (ok_l_numbers T) (hr.mono (by decide)) (by rfl) T.m_l_numbers T.F_l_numbers.kp T.b_l_numbers .nil pass0 (pa_cons (pv 0) (pa_cons (pv 3) pa_nil)))) (pss_cons (ps_par (i := 5) (j := 6) (by rfl) sc_l_right.nd rfl rfl (by decide) rfl rfl (pa_cons (show PE _ _ (tCB (G8.rRepr K) _) from (pe_callB (id := "repr") (G8.cr_repr hG hr.units) (by rfl) T.n_repr (by decide +kernel) (pa_cons (pv 4) pa_nil))) (pa_cons (pe_lock (pe_call (ok_renamed T) (hr.mono (by decide)) (by rfl) T.m_renamed T.F_renamed.kp T.b_renamed .nil pass0 (pa_cons (pv 2) (pa_cons (pv 4) pa_nil)))) pa_nil)) (by rfl)) (pss_cons (ps_set (i := 7) sc_l_right.nd rfl (Or.inl rfl) (show PE _ _ (tCB (rSortedPO K) _) from (pe_callB (id := "sorted") cr_sortedPO (by rfl) T.n_sorted (by decide +kernel) (pa_cons (pe_lc (own := [("_law_one", 12), ("_law_other", 13)]) rfl sc_l_right.nd (show PI _ _ _ (iList K _) from pi_list (pv 1)) (blkOk_by (N := n_l_right) (sc := defScope s_l_right) (by decide +kernel)) (fun _ _ _ _ _ => (show PG _ _ (gTup K 2 _) from pg_tup rfl (pgs_cons (pg_name (i := 12) sc_l_right.nd rfl (Or.inl rfl)) (pgs_cons (pg_name (i := 13) sc_l_right.nd rfl (Or.inl rfl)) pgs_nil)))) (fun _ _ _ _ _ => pts_nil) (fun _ _ _ _ _ => (pe_tup (pa_cons (pe_callB (id := "min") (call_min2 rfl) (by rfl) T.n_min (by decide +kernel) (pa_cons (show PE _ _ (tOp (rIxL K) _ _) from pe_ix ix_list (pv 4) (pv 12) (fun _ _ => rfl)) (pa_cons (show PE _ _ (tOp (rIxL K) _ _) from pe_ix ix_list (pv 4) (pv 13) (fun _ _ => rfl)) pa_nil))) (pa_cons (pe_callB (id := "max") (call_max2 rfl) (by rfl) T.n_max (by decide +kernel) (pa_cons (show PE _ _ (tOp (rIxL K) _ _) from pe_ix ix_list (pv 4) (pv 12) (fun _ _ => rfl)) (pa_cons (show PE _ _ (tOp (rIxL K) _ _) from pe_ix ix_list (pv 4) (pv 13) (fun _ _ => rfl)) pa_nil))) pa_nil))))) pa_nil)))) (pss_cons (ps_if (PW.pt (pw_or (show PT _ _ (tTest (tOp (rNeD K) _ _)) from pt_cmpR (op_neD hr.units) (pe_prop (pv 6) T.cl_Country T.pr_Country_lanes (ok_Country_lanes T) (hr.mono (by decide)) T.b_Country_lanes .nil pass0 rfl) (pv 7) (nomark _)) (pw_or (pt_cmpR op_ne (show PE _ _ (tCB (G8.rRepr K) _) from (pe_callB (id := "repr") (G8.cr_repr hG hr.units) (by rfl) T.n_repr (by decide +kernel) (pa_cons (pv 4) pa_nil))) (pv 5) (nomark _)) (pw_or (show PT _ _ (tTest (tOp (G9.rOwnNe A.Country (spEq A.Country) E0) _ _)) from pt_cmpR (G9.op_ownNe (ok_Country_eq T) T.ic_Country.hm T.ne_Country T.me_Country_eq.1 T.me_Country_eq.fn T.b_Country_eq (hr.mono (by decide)) pass0) (pv 2) (pe_lock (pe_make T.mk_Country (ok_Country_init T) (hr.mono (by decide)) (by rfl) T.m_Country T.b_Country_init .nil pass0 (pa_cons (pv 1) pa_nil))) (nomark _)) (pw_or1 (show PT _ _ (tTest (tOp (G9.rOwnNe A.Country (spEq A.Country) E0) _ _)) from pt_cmpR (G9.op_ownNe (ok_Country_eq T) T.ic_Country.hm T.ne_Country T.me_Country_eq.1 T.me_Country_eq.fn T.b_Country_eq (hr.mono (by decide)) pass0) (G8.pe_callK0 (ok_renamed T) (hr.mono (by decide)) (by rfl) T.m_renamed T.F_renamed.kp (KB_renamed T) pass0 (pk_cons (show PE _ _ (tCB (rTupOf K) _) from (pe_callTy (T := "tuple") call_tuple_of (by rfl) T.n_tuple (by decide +kernel) (pa_cons (pv 4) pa_nil))) (pk_cons (pv 2) pk_nil))) (pv 6) (nomark _))))))) (pss_one (ps_ret pe_bl)) pss_nil) (pss_cons (ps_if (PW.pt (pw_or (show PT _ _ (tTest (tOp (rNeD K) _ _)) from pt_cmpR (op_neD hr.units) (pe_prop (pv 6) T.cl_Country T.pr_Country_yards (ok_Country_yards T) (hr.mono (by decide)) T.b_Country_yards .nil pass0 rfl) (show PE _ _ (tCB (rSortedI K) _) from (pe_callB (id := "sorted") cr_sortedI (by rfl) T.n_sorted (by decide +kernel) (pa_cons (pe_lc (own := [("_law_place", 14)]) rfl sc_l_right.nd (show PI _ _ _ (iList K _) from pi_list (pe_call (ok_l_yards T) (hr.mono (by decide)) (by rfl) T.m_l_yards T.F_l_yards.kp T.b_l_yards .nil pass0 (pa_cons (pv 1) pa_nil))) (blkOk_by (N := n_l_right) (sc := defScope s_l_right) (by decide +kernel)) (fun _ _ _ _ _ => (pg_name (i := 14) sc_l_right.nd rfl (Or.inl rfl))) (fun _ _ _ _ _ => pts_nil) (fun _ _ _ _ _ => (show PE _ _ (tOp (rIxL K) _ _) from pe_ix ix_list (pv 4) (pv 14) (fun _ _ => rfl)))) pa_nil))) (nomark _)) (pw_or1 (show PT _ _ (tTest (tOp (rNeD K) _ _)) from pt_cmpR (op_neD hr.units) (pe_prop (pv 6) T.cl_Country T.pr_Country_gates (ok_Country_gates T) (hr.mono (by decide)) T.b_Country_gates .nil pass0 rfl) (show PE _ _ (tCB (rSortedI K) _) from (pe_callB (id := "sorted") cr_sortedI (by rfl) T.n_sorted (by decide +kernel) (pa_cons (pe_lc (own := [("_law_place", 14)]) rfl sc_l_right.nd (show PI _ _ _ (iList K _) from pi_list (pe_call (ok_l_gates T) (hr.mono (by decide)) (by rfl) T.m_l_gates T.F_l_gates.kp T.b_l_gates .nil pass0 (pa_cons (pv 1) pa_nil))) (blkOk_by (N := n_l_right) (sc := defScope s_l_right) (by decide +kernel)) (fun _ _ _ _ _ => (pg_name (i := 14) sc_l_right.nd rfl (Or.inl rfl))) (fun _ _ _ _ _ => pts_nil) (fun _ _ _ _ _ => (show PE _ _ (tOp (rIxL K) _ _) from pe_ix ix_list (pv 4) (pv 14) (fun _ _ => rfl)))) pa_nil))) (nomark _))))) (pss_one (ps_ret pe_bl)) pss_nil) (pss_cons (ps_for PassesOwn.never rfl (pi_range1 (by rfl) T.n_range (pa_cons pe_int pa_nil)) (pg_name (i := 8) sc_l_right.nd rfl (Or.inl rfl)) (pss_one (ps_if (pt_not (pt_val (pe_call (ok_l_led_right T) (hr.mono (by decide)) (by rfl) T.m_l_led_right T.F_l_led_right.kp T.b_l_led_right .nil pass0 (pa_cons (pv 2) (pa_cons (pv 6) (pa_cons (pv 4) (pa_cons (pv 1) (pa_cons (pe_call (ok_l_draw T) (hr.mono (by decide)) (by rfl) T.m_l_draw T.F_l_draw.kp T.b_l_draw .nil pass0 (pa_cons (pv 0) (pa_cons (pv 3) pa_nil))) (pa_cons (pe_call (ok_l_draw T) (hr.mono (by decide)) (by rfl) T.m_l_draw T.F_l_draw.kp T.b_l_draw .nil pass0 (pa_cons (pv 0) (pa_cons (pv 3) pa_nil))) pa_nil))))))))) (pss_one (ps_ret pe_bl)) pss_nil))) (pss_cons (ps_setLc (i := 9) (own := [("_law_number", 15)]) rfl sc_l_right.nd rfl rfl (sw_true rfl rfl rfl (by decide +kernel)) (pi_range1 (by rfl) T.n_range (pa_cons (pv 3) pa_nil)) (blkOk_by (N := n_l_right) (sc := defScope s_l_right) (by decide +kernel)) (fun _ _ _ _ _ => (pg_name (i := 15) sc_l_right.nd rfl (Or.inl rfl))) (fun _ _ _ _ _ => pts_nil) (fun _ _ _ _ _ => (show PE _ _ (tBM K "list" (rIndex K) _ _) from pe_bm PySem.F.plainAttrs_list PySem.F.slot_list_index PySem.F.type_list_index mt_index (pv 4) (pa_cons (pv 15) pa_nil)))) (pss_cons (ps_if (PW.pt (pw_or (show PT _ _ (tTest (tOp (G9.rOwnNe A.Country (spEq A.Country) E0) _ _)) from pt_cmpR (G9.op_ownNe (ok_Country_eq T) T.ic_Country.hm T.ne_Country T.me_Country_eq.1 T.me_Country_eq.fn T.b_Country_eq (hr.mono (by decide)) pass0) (pe_call (ok_renamed T) (hr.mono (by decide)) (by rfl) T.m_renamed T.F_renamed.kp T.b_renamed .nil pass0 (pa_cons (pv 6) (pa_cons (pv 9) pa_nil))) (pv 2) (nomark _)) (pw_or1 (show PT _ _ (tTest (tOp (rNotB) _ _)) from pt_cmpR op_notBl (show PE _ _ (tOp (G9.rOwnEq A.Country (spEq A.Country) E0) _ _) from pe_cmpR (G9.op_ownEq (ok_Country_eq T) T.me_Country_eq.1 T.me_Country_eq.fn T.b_Country_eq (hr.mono (by decide)) pass0) (pe_call (ok_renamed T) (hr.mono (by decide)) (by rfl) T.m_renamed T.F_renamed.kp T.b_renamed .nil pass0 (pa_cons (pv 2) (pa_cons (pe_listRg rfl (by rfl) T.n_list (prg_1 (by rfl) T.n_range (pv 3))) pa_nil))) (pv 2) (nomark _)) pe_bl (nomark _))))) (pss_one (ps_ret pe_bl)) pss_nil) (pss_cons (ps_set (i := 10) sc_l_right.nd rfl (Or.inr rfl) (pe_call (ok_l_numbers T) (hr.mono (by decide)) (by rfl) T.m_l_numbers T.F_l_numbers.kp T.b_l_numbers .nil pass0 (pa_cons (pv 0) (pa_cons (pv 3) pa_nil)))) (pss_cons (ps_set (i := 11) sc_l_right.nd rfl (Or.inl rfl) (pe_call (ok_renamed T) (hr.mono (by decide)) (by rfl) T.m_renamed T.F_renamed.kp T.b_renamed .nil pass0 (pa_cons (pv 6) (pa_cons (pv 10) pa_nil)))) (pss_one (ps_ret (pe_and (show PE _ _ (tOp (G9.rOwnEq A.Country (spEq A.Country) E0) _ _) from pe_cmpR (G9.op_ownEq (ok_Country_eq T) T.me_Country_eq.1 T.me_Country_eq.fn T.b_Country_eq (hr.mono (by decide)) pass0) (pv 11) (pe_call (ok_renamed T) (hr.mono (by decide)) (by rfl) T.m_renamed T.F_renamed.kp T.b_renamed .nil pass0 (pa_cons (pv 2) (pa_cons (pe_lc (own := [("_law_number", 15)]) rfl sc_l_right.nd (show PI _ _ _ (iList K _) from pi_list (pv 4)) (blkOk_by (N := n_l_right) (sc := defScope s_l_right) (by decide +kernel)) (fun _ _ _ _ _ => (pg_name (i := 15) sc_l_right.nd rfl (Or.inl rfl))) (fun _ _ _ _ _ => pts_nil) (fun _ _ _ _ _ => (show PE _ _ (tOp (rIxL K) _ _) from pe_ix ix_list (pv 10) (pv 15) (fun _ _ => rfl)))) pa_nil))) (nomark _)) (pe_one (pe_cmpR op_eq (show PE _ _ (tOp (G9.rOwnEq A.Country (spEq A.Country) E0) _ _) from pe_cmpR (G9.op_ownEq (ok_Country_eq T) T.me_Country_eq.1 T.me_Country_eq.fn T.b_Country_eq (hr.mono (by decide)) pass0) (pv 6) (pv 2) (nomark _)) (show PE _ _ (tOp (rEqD K) _ _) from pe_cmpR (op_eqD hr.units) (pv 7) (pe_prop (pv 2) T.cl_Country T.pr_Country_lanes (ok_Country_lanes T) (hr.mono (by decide)) T.b_Country_lanes .nil pass0 rfl) (nomark _)) (nomark _)))))))))))))))))), ?_⟩
    -- lanes
    refine ⟨_, rfl, p, 6, rfl, hp, by decide, by decide, fun a L vt H1 G hL fa e1 hp1 => ?_⟩
    have hsm := G.small
    have hym := G.most
    have nap : a ≠ p := pot_new hp fa
    dsimp only
    have hLl : ∀ {σ : L2.St} {H3 : Hp}, σ[1]? = some (some (.ref a)) → LanesAt H3 a L → Ev (tOp (rI0 fun i j => V.int (i + j)) (tCB (rLenA K) (tCons (tVar 1) tNil)) (tC (.int 1))) σ H3 (vI (L.length + 1)) := fun h1 ⟨ls, h2, h3⟩ => Evl.ev_is (Evl.ev_op (ev_lenL (Evl.ev_var h1) (Evl.sq_of h2)) Evl.ev_c rv_I0P) (by rw [PySem.Paired.length h3]; rfl)
    have mkL : ∀ {σ : L2.St} {H3 : Hp}, σ[1]? = some (some (.ref a)) → LanesAt H3 a L → EvP (tMake A.Country (spInit A.Country) [] E0 (tCons (tVar 1) tNil)) σ H3 (NewC A.Country L) := fun h1 h2 => evp_make ((evp_ev (Evl.ev_var h1)).imp fun v Ha Hb ea eb h => ⟨a, h, h2.ex (ea.trans eb)⟩) G
    show tSeq (tPar _ _ _) _ _ ([some (.ref p), some (.ref a), none, none, none, none, none, none, none, none, none, none, none, none, none, none]) H1
    refine p_parC (y := vI (L.length + 1)) hp1 (fun Ha ea => mkL rfl ((hL.but hp1 nap).ex ea)) (hLl rfl hL) fun x H2 fx nxp e2 hC2 => ?_
    have hp2 := hp1.ex e2
    have hL2 := (hL.but hp1 nap).ex (but_in e2)
    -- places
    refine ⟨_, rfl, _, rfl, p, L.length + 1, rfl, hp2, Nat.succ_pos _, Nat.succ_le_succ hsm, fun b ps H3 m hb3 fb e3 hp3 => ?_⟩
    have nbp : b ≠ p := pot_new hp2 fb
    have hC3 := hC2.ex (but_exB e3)
    have hL3 := hL2.ex (but_exB e3)
    have hb3' : but H3 p b = some (.lst (vIs ps)) := but_ne hb3 nbp
    have num := m.num
    have GR := G.ren num
    have hpl := m.len
    have sm : ∀ z ∈ ps, z < 1024 := fun z hz => by have := m.lt hz; omega
    have inV : ∀ {i : Nat}, i ∈ vt → i < ps.length := fun h => by rw [hpl]; exact (G.vs_ _).mp h
    dsimp only
    show tSeq (tPar _ _ _) _ _ ([some (.ref p), some (.ref a), some (.ref x), some (vI (L.length + 1)), some (.ref b), none, none, none, none, none, none, none, none, none, none, none]) H3
    refine p_parC' (L := ren (fOf ps) L) (y := .str (dN ps).shown) hp3 (fun Ha ea => ev_ren (va2 rfl rfl) (hC3.ex ea) G (.inl (ea _ _ hb3')) m) (ev_repr (Evl.ev_var rfl) hb3 sm (by omega)) fun y H4 fy nyp e4 hE4 => ?_
    have hp4 := hp3.ex e4
    have hC4 := hC3.ex (but_in e4)
    have hL4 := hL3.ex (but_in e4)
    have hb4 := e4 _ _ hb3
    have it : ∀ {σ : L2.St} {H8 : Hp} {te : TE} {i : Nat}, σ[4]? = some (some (.ref b)) → H8 b = some (.lst (vIs ps)) → Ev te σ H8 (vI i) → i ∈ vt → Ev (tOp (rIxL K) (tVar 4) te) σ H8 (vI (fOf ps i)) := fun h1 e8 h2 h3 => Evl.ev_op (Evl.ev_var h1) h2 (Evl.rv_ixL (Evl.sq_of e8) (at_of rfl (vIs_at (inV h3))))
    -- led
    have hLH4 := hL4.ex but_ex
    obtain ⟨ls4, hls4, hlp4⟩ := id hLH4
    show tSeq (tAsg _ _) _ _ ([some (.ref p), some (.ref a), some (.ref x), some (vI (L.length + 1)), some (.ref b), some (.str (dN ps).shown), some (.ref y), none, none, none, none, none, none, none, none, none]) H4
    refine p_asg (ev_sortP (N := norm (ren (fOf ps) L)) ((lcT (F := fun q => norm1 (fOf ps q.1, fOf ps q.2)) (src_list (K := K) (Evl.ev_var rfl) (Evl.sq_of hls4)) hlp4 (by omega) (fun q => [some (.ref p), some (.ref a), some (.ref x), some (vI (L.length + 1)), some (.ref b), some (.str (dN ps).shown), some (.ref y), none, none, none, none, none, some (vI q.1), some (vI q.2), none, none]) (fun _ => rfl) (fun q t H8 Q' _ h k => (by exact go_tup (i := 12) (j := 13) h k)) (fun q H8 hq e8 => ?_)).imp fun v Ha Hb _ _ h => ?_)) fun v H5 e5 h => ?_
    · have i0 : ∀ {H9 : Hp}, Ex H8 H9 → Ev (tOp (rIxL K) (tVar 4) (tVar 12)) [some (.ref p), some (.ref a), some (.ref x), some (vI (L.length + 1)), some (.ref b), some (.str (dN ps).shown), some (.ref y), none, none, none, none, none, some (vI q.1), some (vI q.2), none, none] H9 (vI (fOf ps q.1)) := fun e9 => it rfl ((e8.trans e9) _ _ hb4) (Evl.ev_var rfl) (G.tr.ends (.inl hq)).1
      have i1 : ∀ {H9 : Hp}, Ex H8 H9 → Ev (tOp (rIxL K) (tVar 4) (tVar 13)) [some (.ref p), some (.ref a), some (.ref x), some (vI (L.length + 1)), some (.ref b), some (.str (dN ps).shown), some (.ref y), none, none, none, none, none, some (vI q.1), some (vI q.2), none, none] H9 (vI (fOf ps q.2)) := fun e9 => it rfl ((e8.trans e9) _ _ hb4) (Evl.ev_var rfl) (G.tr.ends (.inl hq)).2
      generalize fOf ps q.1 = u at i0
      generalize fOf ps q.2 = w at i1
      refine evp_tup (vs := [vI (norm1 (u, w)).1, vI (norm1 (u, w)).2]) (Evl.ea_cons (ev_cb2 (i0 (Ex.refl _)) (i1 (Ex.refl _)) fun H7 e7 Q z => ⟨_, _, rfl, ?_⟩) (Evl.ea_cons (ev_cb2 (i0 (Ex.refl _)) (i1 (Ex.refl _)) fun H7 e7 Q z => ⟨_, _, rfl, ?_⟩) Evl.ea_nil)) (by show 2 ≤ 100000; decide)
      · have e : (if (w : Int) < (u : Int) then (w : Int) else (u : Int)) = ((norm1 (u, w)).1 : Int) := by
          unfold norm1
          split <;> simp only [Nat.min_def] <;> split <;> omega
        rw [e]
        exact z
      · have e : (if (w : Int) > (u : Int) then (w : Int) else (u : Int)) = ((norm1 (u, w)).2 : Int) := by
          unfold norm1
          split <;> simp only [Nat.max_def] <;> split <;> omega
        rw [e]
        exact z
    · obtain ⟨q, r, _, hq⟩ := h
      refine ⟨q, r, ?_⟩
      unfold norm ren
      rw [List.map_map]
      exact hq
    obtain ⟨o, ML, rfl, fo, ho5, pML, sML⟩ := h
    have nop : o ≠ p := pot_new hp4 fo
    have hp5 := hp4.ex e5
    have cAt : ∀ {H' : Hp}, ExB p H5 H' → CAt A.Country H' x L := fun e => ((hC4.ex (but_in e5)).ex (but_exB e)).ex but_ex
    have yAt : ∀ {H' : Hp}, ExB p H5 H' → CAt A.Country H' y (ren (fOf ps) L) := fun e => ((hE4.ex (but_in e5)).ex (but_exB e)).ex but_ex
    have lAt : ∀ {H' : Hp}, ExB p H5 H' → LanesAt H' a L := fun e => ((hL4.ex (but_in e5)).ex (but_exB e)).ex but_ex
    have bAt : ∀ {H' : Hp}, ExB p H5 H' → H' b = some (.lst (vIs ps)) := fun e => e _ _ (e5 _ _ hb4) nbp
    have oAt : ∀ {H' : Hp}, ExB p H5 H' → LanesAt H' o ML := fun e => ((ho5.but hp5 nop).ex (but_exB e)).ex but_ex
    clear hC4 hE4 hL4 hb4 ho5 e5 hp4 hLH4 hls4 hlp4 e4 hC3 hL3 hb3 hb3' hC2 hL2 hp2 hp3 e3 e2 hL
    show tSeq (tIfS _ _ tNext) _ _ ([some (.ref p), some (.ref a), some (.ref x), some (vI (L.length + 1)), some (.ref b), some (.str (dN ps).shown), some (.ref y), some (.ref o), none, none, none, none, none, none, none, none]) H5
    refine p_skip (Evl.et_or (a := false) (b := false) ?_ fun _ => Evl.et_or (a := false) (b := false) ?_ fun _ => Evl.et_or (a := false) (b := false) ?_ fun _ => ?_) fun H6 e6 => ?_
    · refine Evl.et_test (ev_opP (evp_prop (R := rLanesG) (Evl.ev_var rfl) (yAt (.of (Ex.refl _)))) (Evl.ev_var rfl) fun v Ha Hb ea eb h => ?_)
      obtain ⟨q, rfl, _, M, hM, pM, sM⟩ := h
      have := lex_unique (pM.trans pML.symm) sM sML
      subst this
      have z := rv_neP (K := K) hM (oAt (.of (ea.trans eb)))
      rw [decide_eq_true rfl] at z
      exact z
    · exact Evl.et_is (Evl.et_test (Evl.ev_op (ev_repr (Evl.ev_var rfl) (bAt (.of (Ex.refl _))) sm (by omega)) (Evl.ev_var rfl) (Evl.rv_ne rfl))) (by simp)
    · refine Evl.et_test (ev_opP2 (K := K) (Evl.ev_var rfl) (evp_lockC hp5 fun Ha ea => mkL rfl (((lAt (.of (Ex.refl _))).but hp5 nap).ex ea)) fun v Ha Hb ea eb h => ?_)
      obtain ⟨q, rfl, _, hq⟩ := h
      have z := rv_neC (cAt (.of (ea.trans eb))) hq
      rw [decide_eq_true (TM.Same.refl L)] at z
      exact z
    · refine Evl.et_test (ev_opP (evp_renK (ps := ps) (evp_cb1 (evp_ev (Evl.ev_var rfl)) fun v Ha Hb ea eb h Q q => ?_) (Evl.ev_var rfl) (cAt (.of (Ex.refl _))) G m) (Evl.ev_var rfl) fun v Ha Hb ea eb h => ?_)
      · cases h
        exact ⟨b, vIs ps, rfl, .inl ⟨Evl.sq_of (bAt (.of (ea.trans eb))), fun l hl => q _ _ (Ex.new hl) ⟨l, rfl, .inr upd_same⟩⟩⟩
      · obtain ⟨q, rfl, _, hq⟩ := h
        have z := rv_neC hq (yAt (.of (ea.trans eb)))
        rw [decide_eq_true (TM.Same.refl _)] at z
        exact z
    -- yards and gates
    have x6 : ExB p H5 H6 := .of e6
    have hp6 := hp5.ex e6
    refine p_skip (Evl.et_or (a := false) (b := false) ?_ fun _ => ?_) fun H7 e7 => ?_
    · refine Evl.et_is (Evl.et_test (ev_opPP' (z := .bl (!decide (yardsL (ren (fOf ps) L) = isort ((yardsL L).map (fOf ps))))) (evp_prop (R := rYardsG) (Evl.ev_var rfl) (yAt x6)) (ev_sortNew (lcMap (src_listN (K := K) (oldL (ev_ownYards (Evl.ea_cons (Evl.ev_var rfl) Evl.ea_nil) (lAt x6) hsm))) (by omega) (fun z => [some (.ref p), some (.ref a), some (.ref x), some (vI (L.length + 1)), some (.ref b), some (.str (dN ps).shown), some (.ref y), some (.ref o), none, none, none, none, none, none, some z, none]) (fun _ => rfl) (fun _ _ _ _ q => q) (fOf ps) (fun u H8 hu e8 => it rfl (bAt (x6.trans (.of e8))) (Evl.ev_var rfl) (yard_vs G hu)))) (fun v u Ha Hb Hc _ eb ⟨q1, r1, _, k1⟩ ec ⟨q2, r2, _, k2⟩ => rv_neNew' ⟨q1, r1, ec _ _ k1⟩ ⟨q2, r2, k2⟩))) ?_
      rw [yards_led (f := fOf ps) num G]
      simp only [eq_self, decide_true, Bool.not_true]
    · refine Evl.et_is (Evl.et_test (ev_opPP' (z := .bl (!decide (gatesL (ren (fOf ps) L) = isort ((gatesL L).map (fOf ps))))) (evp_prop (R := rGatesG) (Evl.ev_var rfl) (yAt x6)) (ev_sortNew (lcMap (src_listN (K := K) (oldL (ev_ownGates (Evl.ea_cons (Evl.ev_var rfl) Evl.ea_nil) (lAt x6) hsm))) ?_ (fun z => [some (.ref p), some (.ref a), some (.ref x), some (vI (L.length + 1)), some (.ref b), some (.str (dN ps).shown), some (.ref y), some (.ref o), none, none, none, none, none, none, some z, none]) (fun _ => rfl) (fun _ _ _ _ q => q) (fOf ps) (fun u H8 hu e8 => it rfl (bAt (x6.trans (.of e8))) (Evl.ev_var rfl) ((G.vs_ _).mpr (mem_gates.mp hu).1)))) (fun v u Ha Hb Hc _ eb ⟨q1, r1, _, k1⟩ ec ⟨q2, r2, _, k2⟩ => rv_neNew' ⟨q1, r1, ec _ _ k1⟩ ⟨q2, r2, k2⟩))) ?_
      · have : (gatesL L).length ≤ L.length + 1 := by
          have := List.length_filter_le (fun i => decide ((adj L i).length = 1)) (List.range (L.length + 1))
          rw [List.length_range] at this
          exact this
        omega
      · rw [gates_led (f := fOf ps) num G]
        simp only [eq_self, decide_true, Bool.not_true]
    have x7 := x6.trans (.of e7)
    have hp7 := hp6.ex e7
    clear x6 e6 e7 hp6
    -- four draws
    refine Evl.q_forR1 (n := 4) (Evl.ea_cons Evl.ev_c Evl.ea_nil) ⟨by decide, by decide⟩ (fun i σ' H' => ∃ y8, σ' = [some (.ref p), some (.ref a), some (.ref x), some (vI (L.length + 1)), some (.ref b), some (.str (dN ps).shown), some (.ref y), some (.ref o), y8, none, none, none, none, none, none, none] ∧ ExB p H5 H' ∧ PotAt H' p) (fun H8 e8 => ⟨none, rfl, x7.trans (.of e8), hp7.ex e8⟩) (fun i σ' H8 hi h => ?_) (fun σ' H8 h => ?_)
    · obtain ⟨y8, rfl, x8, hp8⟩ := h
      refine ⟨_, rfl, _, rfl, _, rfl, _, rfl, _, rfl, _, rfl, p, L.length + 1, rfl, hp8, by omega, by omega, fun d1 H9 hd1 hp9 e9 => ⟨_, rfl, _, rfl, p, L.length + 1, rfl, hp9, by omega, by omega, fun d2 Ha hd2 hpa ea => ?_⟩⟩
      have xa := (x8.trans e9).trans ea
      refine ⟨L, vt, x, y, b, ps, a, d1, d2, rfl, cAt xa, yAt xa, bAt xa, m, lAt xa, G, (G.vs_ _).mpr hd1, (G.vs_ _).mpr hd2, fun Hb eb => ⟨true, rfl, ?_⟩⟩
      refine iteF ?_
      exact ⟨_, rfl, xa.trans (.of eb), hpa.ex eb⟩
    · obtain ⟨y8, rfl, x8, hp8⟩ := h
      have mb := m.back.1
      -- the numbers turned about
      refine p_asg (P := NewL (vIs ((List.range (L.length + 1)).map fun k => ps.idxOf k))) (EvP.imp (lcV (n := L.length + 1) (src_rng1 (n := L.length + 1) (Evl.ea_cons (Evl.ev_var rfl) Evl.ea_nil) (by omega)) (by omega) (fun _ z => [some (.ref p), some (.ref a), some (.ref x), some (vI (L.length + 1)), some (.ref b), some (.str (dN ps).shown), some (.ref y), some (.ref o), y8, none, none, none, none, none, none, some z]) (fun _ _ => rfl) (fun _ _ _ _ _ _ _ q => q) (fun _ => true) (fun i => vI (ps.idxOf i)) (fun _ _ _ _ _ _ => fun H1 e Q q => q H1 (Ex.refl _)) (fun i z H9 e9 hi hz _ => ?_)) (fun v Ha Hb _ _ h => ?_)) fun v H9 e9 h => ?_
      · cases hz
        exact ev_index (Evl.ev_var rfl) (bAt (x8.trans (.of e9))) (Evl.ev_var rfl) (m.perm.mem_iff.mpr (List.mem_range.mpr hi))
      · obtain ⟨q, r, hq, hk⟩ := h
        refine ⟨q, r, hq, ?_⟩
        rw [hk, List.filter_eq_self.mpr (fun _ _ => rfl)]
        unfold vIs
        rw [List.map_map]
        rfl
      obtain ⟨bk, rfl, fbk, hbk⟩ := h
      have x9 := x8.trans (.of e9)
      have hp9 := hp8.ex e9
      show tSeq (tIfS _ _ tNext) _ _ ([some (.ref p), some (.ref a), some (.ref x), some (vI (L.length + 1)), some (.ref b), some (.str (dN ps).shown), some (.ref y), some (.ref o), y8, some (.ref bk), none, none, none, none, none, none]) H9
      have rl : (ren (fOf ps) L).length = L.length := ren_len
      refine p_skip (Evl.et_or (a := false) (b := false) ?_ fun _ => ?_) fun Ha ea => ?_
      · refine Evl.et_test (ev_opP (ev_ren (ps := (List.range (L.length + 1)).map fun k => ps.idxOf k) (va2 rfl rfl) (yAt x9) GR (.inl hbk) (by rw [rl]; exact mb)) (Evl.ev_var rfl) fun v Hb Hc eb ec h => ?_)
        obtain ⟨q, rfl, _, hq⟩ := h
        have hq : CAt A.Country Hc q L := by
          have z := ren_back G m
          exact z ▸ hq
        have z := rv_neC hq (cAt (x9.trans (.of (eb.trans ec))))
        rw [decide_eq_true (TM.Same.refl L)] at z
        exact z
      · refine Evl.et_is (Evl.et_test (Evl.ev_op (ev_opP (z := .bl true) (evp_call (P := NewC A.Country L) (PA := fun vs _ Hb => ∃ r, vs = [.ref x, .ref r] ∧ Hb r = some (.lst (vIs (List.range (L.length + 1))))) ?_ (fun vs Hb Hc eb ec hh Q q => ?_)) (Evl.ev_var rfl) fun v Hb Hc eb ec h => ?_) Evl.ev_c rv_notB)) rfl
        · intro Hb eb Q q
          refine ⟨_, rfl, ?_⟩
          refine (ev_range (n := L.length + 1) (Evl.ev_var rfl) (by omega)).run fun v Hc ec ⟨r, rr, _, hr⟩ => ?_
          subst rr
          exact q _ Hc ec ⟨r, rfl, hr⟩
        · obtain ⟨r, rfl, hr⟩ := hh
          refine ⟨L, vt, x, r, List.range (L.length + 1), rfl, cAt (x9.trans (.of (eb.trans ec))), G, .inl hr, Mixed.range _, fun q' Hd ed fq hq => q _ Hd ed ⟨q', rfl, Evl.fresh_back ec fq, ?_⟩⟩
          have z := ren_range G
          exact z ▸ hq
        · obtain ⟨q, rfl, _, hq⟩ := h
          have z := rv_eqC hq (cAt (x9.trans (.of (eb.trans ec))))
          rw [decide_eq_true (TM.Same.refl L)] at z
          exact z
      have xa := x9.trans (.of ea)
      have hpa := hp9.ex ea
      -- more numbers
      refine ⟨_, rfl, _, rfl, p, L.length + 1, rfl, hpa, Nat.succ_pos _, Nat.succ_le_succ hsm, fun mo ms Hb mm hmo fmo eb hpb => ?_⟩
      have xb := xa.trans eb
      dsimp only
      show tSeq (tAsg _ _) _ _ ([some (.ref p), some (.ref a), some (.ref x), some (vI (L.length + 1)), some (.ref b), some (.str (dN ps).shown), some (.ref y), some (.ref o), y8, some (.ref bk), some (.ref mo), none, none, none, none, none]) Hb
      refine p_asg (ev_ren (ps := ms) (va2 rfl rfl) (yAt xb) GR (.inl hmo) (by rw [rl]; exact mm)) fun v Hc ec h => ?_
      obtain ⟨bo, rfl, _, hbo⟩ := h
      have xc := xb.trans (.of ec)
      have hmoc := ec _ _ hmo
      show tRet _ _ ([some (.ref p), some (.ref a), some (.ref x), some (vI (L.length + 1)), some (.ref b), some (.str (dN ps).shown), some (.ref y), some (.ref o), y8, some (.ref bk), some (.ref mo), some (.ref bo), none, none, none, none]) Hc
      have mc := m.comp mm
      refine p_ret (P := Is (.bl true)) (evp_ev (Evl.ev_andV (a := true) (b := true) (ev_opP2 (K := K) (Evl.ev_var rfl) (evp_call (P := NewC A.Country (ren (fOf (ps.map fun z => ms.getD z 0)) L)) (PA := fun vs _ Hb => ∃ r, vs = [.ref x, .ref r] ∧ Hb r = some (.lst (vIs (ps.map fun z => ms.getD z 0)))) ?_ (fun vs Hd He ed ee hh Q q => ?_)) fun v Hd He ed ee h => ?_) (fun _ => Evl.ev_is (Evl.ev_op (Evl.ev_op (Evl.ev_var rfl) (Evl.ev_var rfl) (rv_eqC (yAt xc) (cAt xc))) (ev_opP2 (K := K) (z := .bl (decide (TM.Same (ren (fOf ps) L) L))) (Evl.ev_var rfl) (evp_prop (R := rLanesG) (Evl.ev_var rfl) (cAt xc)) fun v Hd He ed ee h => ?_) rv_eqB) ?_))) fun v Hd ed hv => ?_
      · intro Hd ed Q q
        refine ⟨_, rfl, ?_⟩
        refine (lcMap (src_list (K := K) (Evl.ev_var rfl) (Evl.sq_of (bAt (xc.trans (.of ed))))) (by omega) (fun z => [some (.ref p), some (.ref a), some (.ref x), some (vI (L.length + 1)), some (.ref b), some (.str (dN ps).shown), some (.ref y), some (.ref o), y8, some (.ref bk), some (.ref mo), some (.ref bo), none, none, none, some z]) (fun _ => rfl) (fun _ _ _ _ q => q) (fun z => ms.getD z 0) (fun u H8 hu e8 => Evl.ev_op (Evl.ev_var rfl) (Evl.ev_var rfl) (Evl.rv_ixL (Evl.sq_of ((ed.trans e8) _ _ hmoc)) (at_of rfl (vIs_at (by rw [mm.len]; exact m.lt hu)))))).run fun v He ee ⟨r, rr, _, hr⟩ => ?_
        subst rr
        exact q _ He ee ⟨r, rfl, hr⟩
      · obtain ⟨r, rfl, hr⟩ := hh
        exact ⟨L, vt, x, r, _, rfl, cAt (xc.trans (.of (ed.trans ee))), G, .inl hr, mc, fun q' Hf ef fq hq => q _ Hf ef ⟨q', rfl, Evl.fresh_back ee fq, hq⟩⟩
      · obtain ⟨q, rfl, _, hq⟩ := h
        have hbo2 := hbo.ex (ed.trans ee)
        have z0 := ren_comp G (ms := ms) m
        have hbo3 : CAt A.Country He bo (ren (fOf (ps.map fun z => ms.getD z 0)) L) := by
          show CAt A.Country He bo (ren (fun i => (ps.map fun z => ms.getD z 0).getD i 0) L)
          rw [← z0]
          exact hbo2
        have z := rv_eqC hbo3 hq
        rw [decide_eq_true (TM.Same.refl _)] at z
        exact z
      · obtain ⟨q, rfl, _, M, hM, pM, sM⟩ := h
        have z := rv_eqP (K := K) (oAt (xc.trans (.of (ed.trans ee)))) hM
        have e : decide (ML = M) = decide (TM.Same (ren (fOf ps) L) L) := decide_eq_decide.mpr (lex_eq pML sML pM sM)
        rw [e] at z
        exact z
      · simp
      · subst hv
        exact k Hd
theorem ok_law (T : Txt K mg A) : G8.FnOkG P w K mg base CX0 10 A.law A.law_fd ["_law_script"] (spLaw K) := by
  refine G8.okG T.F_law sc_law (fun vs H Q E h => ?_) (fun cdv A' outer s H vs Q E hr hG h => ?_)
  · obtain ⟨a, ns, rfl, _⟩ := h
    rfl
  · obtain ⟨a, ns, rfl, ha, k⟩ := h
    refine ⟨_, (pss_one (ps_ret (G8.pe_callG (ok_l_right T) (hr.mono (by decide)) hG (by rfl) T.m_l_right T.F_l_right.kp T.b_l_right .nil pass0 (pa_cons (pe_call (ok_l_pot T) (hr.mono (by decide)) (by rfl) T.m_l_pot T.F_l_pot.kp T.b_l_pot .nil pass0 (pa_cons (pv 0) (pa_cons pe_int pa_nil))) pa_nil)))), ?_⟩
    exact ⟨_, rfl, a, ns, 0, rfl, ha, by decide, fun p H1 e1 fp hp => ⟨p, rfl, hp, fun H2 => k H2⟩⟩
end
end K15

set_option Elab.async false
set_option linter.all false
set_option maxRecDepth 100000
set_option maxHeartbeats 4000000
/-! the law called from outside, where its def is promised under the guard alone -/
namespace G8
open PySem PySem.Spec PyProof.Rows L2
section
variable {P : Program} {w : World} {K : PySem.W.Frag} {mg mb : Str → Option Value} {k : Nat} {fa a : Addr} {fd : FuncData} {x : Str} {sp : Sp} {s : Shared} {vs : List Value} {ns : List Int} {H : Hp}
/-- a table is not the script -/
theorem table_off (ha : s.heap.get? a = some { cls := .type "list", data := .seq vs.toArray }) (only : ∀ b, b ≠ a → H b = none) {b : Addr} {m : Str → Option Value} (t : s.heap.Ns b m) : (hidT s.heap H).Ns b m := by
  obtain ⟨ob, ents, used, at_, isD, rest⟩ := t
  refine ⟨ob, ents, used, hidT_get at_ (only b fun same => ?_), isD, rest⟩
  rw [same, ha] at at_
  have sameO := Option.some.inj at_
  rw [← sameO] at isD
  exact nomatch isD
theorem mod_below (KX : K.In s.heap) (g1 : s.heap.Ns mainGlobals mg) (g2 : s.heap.Ns builtinsNs mb) (g3 : ∀ y : Str, y ≠ "__name__" → mb y = bootBuiltins y) (g4 : s.heap.NoLimit)
    (ha : s.heap.get? a = some { cls := .type "list", data := .seq vs.toArray }) (only : ∀ b, b ≠ a → H b = none) (out : H a = none ∨ K.lookup a = none) : Mod K mg (hidT s.heap H) := by
  obtain ⟨lim, l1, l2⟩ := g4
  refine ⟨fun b o hb => hidT_get (KX b o hb) ?_, table_off ha only g1, ⟨mb, table_off ha only g2, g3⟩, ⟨lim, table_off ha only l1, l2⟩⟩
  by_cases same : b = a
  · rcases out with z | z
    · rw [same]
      exact z
    · rw [same, z] at hb
      exact nomatch hb
  · exact only b same
/-- one tracked thing at most, which is locked: the call leaves all as it was -/
theorem law_from (KX : K.In s.heap) (g1 : s.heap.Ns mainGlobals mg) (g2 : s.heap.Ns builtinsNs mb) (g3 : ∀ y : Str, y ≠ "__name__" → mb y = bootBuiltins y) (g4 : s.heap.NoLimit) (g5 : s.gens = #[])
    (ha : s.heap.get? a = some { cls := .type "list", data := .seq vs.toArray }) (hr : Room k callerA) (F : ∀ base : Heap, FnOkG P w K mg base CX0 k fa fd [x] sp) (bind : ∀ (t : Shared) (u : Value), BindsTo t fd ⟨[u], []⟩ [(x, u)])
    (only : ∀ b, b ≠ a → H b = none) (out : H a = none ∨ K.lookup a = none) (lock : ∀ b u, H b = some u → ∃ ob xs, u = .frz ob (.lst xs)) (hok : HOk P w H s.heap) (say : sp [.ref a] H (fun v _ => v = .bl true) fun _ _ _ => False) :
    codeAny (model P w) callerA (.call (.ref fa) ⟨[.ref a], []⟩) (fun r t => r = .ok (.ret (.bool true)) ∧ OldK s.heap t.heap ∧ t.os = s.os ∧ AllBare t.gens) s := by
  have none_in : ∀ b : Addr, ¬ b ∈ ([] : List Addr) := fun b z => nomatch z
  have env : Env0 P w K mg (hidT s.heap H) callerA [] s H :=
    ⟨rfl, mod_below KX g1 g2 g3 g4 ha only out, fun b o z => of_hidT z, Nat.le_of_eq (hidT_size _ _), trivial, fun b z => absurd z (none_in b), hok, .of_eq g5⟩
  have go := (F (hidT s.heap H)).run callerA [] s H ⟨[.ref a], []⟩ [.ref a] [.ref a] (fun v _ => v = .bl true) (fun _ _ _ => False) hr rfl env (bind s (.ref a)) (.cons rfl .nil) say
  refine codeAny_mono go fun r t done => ?_
  match r, done with
  | .ok (.ret u), ⟨v, H2, os, bare, un, hok2, rel, isT⟩ =>
    have isT : v = .bl true := isT
    subst isT
    have isU : u = Value.bool true := rel
    subst isU
    refine ⟨rfl, .of_keep fun b o there => ?_, os, bare⟩
    cases tracked : H b with
    | none => exact un.keep b o there tracked (none_in b) (by simp)
    | some v =>
      obtain ⟨ob, xs, rfl⟩ := lock b v tracked
      have one := (hok b _ tracked).1
      have two := (hok2 b _ (un.frzs b ob _ tracked)).1
      rw [there] at one
      rw [Option.some.inj one]
      exact two
  | .error e, done => exact done.elim
  | .ok .next, done => exact done.elim
  | .ok .brk, done => exact done.elim
  | .ok .cont, done => exact done.elim
end
end G8
namespace G8
open PySem PySem.Spec PyProof.Rows L2
/-- the row, by the promise of its def -/
theorem walk_G {l : PySem.W.OpenLaw} {n k : Nat} {q : Program} {loose : List Str} {XP : (Str → Option Value) → Heap → Prop} {YP : World → Heap → Prop} {d : DefRec} {K : Params → PySem.W.Frag} {sp : PySem.W.Frag → Sp} {x : Str}
    (most : l.most = some n) (fits : n ≤ sizeLine) (plain : d.params.defaults = []) (hr : Room k callerA) (isIn : ∀ (w : World) (h : Heap), YP w h → (K w.params).In h)
    (F : ∀ (w : World) (mg : Str → Option Value) (fa : Addr) (h : Heap), (K w.params).In h → h.Ns mainGlobals mg → mg d.name = some (.ref fa) →
      ∃ fd : FuncData, (∀ (s : Shared) (u : Value), BindsTo s fd ⟨[u], []⟩ [(x, u)]) ∧ ∀ base : Heap, FnOkG l.prog w (K w.params) mg base CX0 k fa fd [x] (sp (K w.params)))
    (say : ∀ (K : PySem.W.Frag) (H : Hp) (a : Addr) (ns : List Int), SqL K H a (ns.map V.int) → sp K [.ref a] H (fun v _ => v = .bl true) fun _ _ _ => False) :
    PySem.W.WalkO q loose XP YP l.row.toRowW d [] (fun f vs => PySem.call f vs) := by
  refine Att.attach_call most plain fun w _ s mg mb fa _ _ _ _ a vs ns G Y _ _ _ hmg script nums short clean => ?_
  have KX := isIn w _ Y
  obtain ⟨fd, bind, ok⟩ := F w mg fa _ KX G.T.g hmg
  have many : ns.length ≤ sizeLine := Nat.le_trans short fits
  have same := nums.length
  have rel := vals_ints nums
  have sized : (ns.map V.int).length ≤ sizeLine := by rw [List.length_map]; exact many
  have done := fun {H : Hp} => law_from (H := H) (fa := fa) (vs := vs) KX G.T.g G.T.b G.T.builtins G.T.nolimit clean script hr ok bind
  by_cases known : ((K w.params).lookup a).isSome = true
  · obtain ⟨ob, at_⟩ := Option.isSome_iff_exists.mp known
    have there := KX a ob at_
    rw [script] at there
    have isO := Option.some.inj there
    subst isO
    exact done (H := fun _ => none) (fun _ _ => rfl) (.inl rfl) (fun _ _ z => nomatch z) (fun _ _ z => nomatch z) (say _ _ _ _ (.inr ⟨_, vs.toArray, _, at_, rfl, rfl, rfl, by rw [List.size_toArray, same]; exact many, by simpa using rel⟩))
  · have out : (K w.params).lookup a = none := by
      cases e : (K w.params).lookup a with
      | none => rfl
      | some ob => rw [e] at known; exact absurd rfl known
    have here : (fun b => if b = a then some (HO.frz { cls := .type "list", data := .seq vs.toArray } (.lst (ns.map V.int))) else none : Hp) a = some (.frz { cls := .type "list", data := .seq vs.toArray } (.lst (ns.map V.int))) := if_pos rfl
    have only : ∀ b u, (fun b => if b = a then some (HO.frz { cls := .type "list", data := .seq vs.toArray } (.lst (ns.map V.int))) else none : Hp) b = some u → b = a ∧ u = .frz { cls := .type "list", data := .seq vs.toArray } (.lst (ns.map V.int)) := fun b u z => by
      by_cases e : b = a
      · subst e
        exact ⟨rfl, (Option.some.inj (here.symm.trans z)).symm⟩
      · have z2 : (none : Option HO) = some u := (if_neg e).symm.trans z
        exact nomatch z2
    refine done (H := fun b => if b = a then some (HO.frz { cls := .type "list", data := .seq vs.toArray } (.lst (ns.map V.int))) else none) (fun b e => if_neg e) (.inr out) (fun b u z => ?_) (fun b u z => ?_) (say _ _ _ _ (.inl (.inr ⟨_, here⟩)))
    · exact ⟨_, _, (only b u z).2⟩
    · obtain ⟨e, r⟩ := only b u z
      subst e; subst r
      exact ⟨script, sized, vs, _, rel, script⟩
end G8
set_option Elab.async false
set_option linter.all false
set_option maxRecDepth 100000
set_option maxHeartbeats 4000000
namespace K15
open PySem PySem.Spec PyProof.Rows L2
theorem all_mk {P : Program} {w : World} {K : PySem.W.Frag} {h : Heap} {mg : Str → Option Value} {fa : Addr} (X : K.In h) (G : h.Ns mainGlobals mg) (hfa : mg "law" = some (.ref fa))
    {C_Country : Addr} {f_is_count : Addr} {od_is_count an_is_count : Option Addr} {sl_is_count : Array (Option Value)} {oc_is_count kV_is_count dc_is_count pm_is_count cd_is_count ct_is_count : Value} {f_is_row : Addr} {od_is_row an_is_row : Option Addr} {sl_is_row : Array (Option Value)} {oc_is_row kV_is_row dc_is_row pm_is_row cd_is_row ct_is_row : Value} {f_Country_init : Addr} {od_Country_init an_Country_init : Option Addr} {sl_Country_init : Array (Option Value)} {oc_Country_init kV_Country_init dc_Country_init pm_Country_init cd_Country_init ct_Country_init : Value} {f_Country_lanes : Addr} {od_Country_lanes an_Country_lanes : Option Addr} {sl_Country_lanes : Array (Option Value)} {oc_Country_lanes kV_Country_lanes dc_Country_lanes pm_Country_lanes cd_Country_lanes ct_Country_lanes : Value} {p_Country_lanes : Addr} {rs_Country_lanes : List Value} {f_Country_yards : Addr} {od_Country_yards an_Country_yards : Option Addr} {sl_Country_yards : Array (Option Value)} {oc_Country_yards kV_Country_yards dc_Country_yards pm_Country_yards cd_Country_yards ct_Country_yards : Value} {p_Country_yards : Addr} {rs_Country_yards : List Value} {f_Country_gates : Addr} {od_Country_gates an_Country_gates : Option Addr} {sl_Country_gates : Array (Option Value)} {oc_Country_gates kV_Country_gates dc_Country_gates pm_Country_gates cd_Country_gates ct_Country_gates : Value} {p_Country_gates : Addr} {rs_Country_gates : List Value} {f_Country_neighbours : Addr} {od_Country_neighbours an_Country_neighbours : Option Addr} {sl_Country_neighbours : Array (Option Value)} {oc_Country_neighbours kV_Country_neighbours dc_Country_neighbours pm_Country_neighbours cd_Country_neighbours ct_Country_neighbours : Value} {f_Country_ahead : Addr} {od_Country_ahead an_Country_ahead : Option Addr} {sl_Country_ahead : Array (Option Value)} {oc_Country_ahead kV_Country_ahead dc_Country_ahead pm_Country_ahead cd_Country_ahead ct_Country_ahead : Value} {f_Country_eq : Addr} {od_Country_eq an_Country_eq : Option Addr} {sl_Country_eq : Array (Option Value)} {oc_Country_eq kV_Country_eq dc_Country_eq pm_Country_eq cd_Country_eq ct_Country_eq : Value} {f_is_place : Addr} {od_is_place an_is_place : Option Addr} {sl_is_place : Array (Option Value)} {oc_is_place kV_is_place dc_is_place pm_is_place cd_is_place ct_is_place : Value} {f_is_yard : Addr} {od_is_yard an_is_yard : Option Addr} {sl_is_yard : Array (Option Value)} {oc_is_yard kV_is_yard dc_is_yard pm_is_yard cd_is_yard ct_is_yard : Value} {f_is_neighbour : Addr} {od_is_neighbour an_is_neighbour : Option Addr} {sl_is_neighbour : Array (Option Value)} {oc_is_neighbour kV_is_neighbour dc_is_neighbour pm_is_neighbour cd_is_neighbour ct_is_neighbour : Value} {f_are_lanes : Addr} {od_are_lanes an_are_lanes : Option Addr} {sl_are_lanes : Array (Option Value)} {oc_are_lanes kV_are_lanes dc_are_lanes pm_are_lanes cd_are_lanes ct_are_lanes : Value} {f_is_pair_up_to : Addr} {od_is_pair_up_to an_is_pair_up_to : Option Addr} {sl_is_pair_up_to : Array (Option Value)} {oc_is_pair_up_to kV_is_pair_up_to dc_is_pair_up_to pm_is_pair_up_to cd_is_pair_up_to ct_is_pair_up_to : Value} {f_neighbours_by_place : Addr} {od_neighbours_by_place an_neighbours_by_place : Option Addr} {sl_neighbours_by_place : Array (Option Value)} {oc_neighbours_by_place kV_neighbours_by_place dc_neighbours_by_place pm_neighbours_by_place cd_neighbours_by_place ct_neighbours_by_place : Value} {f_yards_among : Addr} {od_yards_among an_yards_among : Option Addr} {sl_yards_among : Array (Option Value)} {oc_yards_among kV_yards_among dc_yards_among pm_yards_among cd_yards_among ct_yards_among : Value} {f_places_ahead : Addr} {od_places_ahead an_places_ahead : Option Addr} {sl_places_ahead : Array (Option Value)} {oc_places_ahead kV_places_ahead dc_places_ahead pm_places_ahead cd_places_ahead ct_places_ahead : Value} {f_check_country : Addr} {od_check_country an_check_country : Option Addr} {sl_check_country : Array (Option Value)} {oc_check_country kV_check_country dc_check_country pm_check_country cd_check_country ct_check_country : Value} {f_check_place : Addr} {od_check_place an_check_place : Option Addr} {sl_check_place : Array (Option Value)} {oc_check_place kV_check_place dc_check_place pm_check_place cd_check_place ct_check_place : Value} {f_check_yard : Addr} {od_check_yard an_check_yard : Option Addr} {sl_check_yard : Array (Option Value)} {oc_check_yard kV_check_yard dc_check_yard pm_check_yard cd_check_yard ct_check_yard : Value} {f_check_country_and_yard : Addr} {od_check_country_and_yard an_check_country_and_yard : Option Addr} {sl_check_country_and_yard : Array (Option Value)} {oc_check_country_and_yard kV_check_country_and_yard dc_check_country_and_yard pm_check_country_and_yard cd_check_country_and_yard ct_check_country_and_yard : Value} {f_check_target : Addr} {od_check_target an_check_target : Option Addr} {sl_check_target : Array (Option Value)} {oc_check_target kV_check_target dc_check_target pm_check_target cd_check_target ct_check_target : Value} {f_way : Addr} {od_way an_way : Option Addr} {sl_way : Array (Option Value)} {oc_way kV_way dc_way pm_way cd_way ct_way : Value} {f_distance : Addr} {od_distance an_distance : Option Addr} {sl_distance : Array (Option Value)} {oc_distance kV_distance dc_distance pm_distance cd_distance ct_distance : Value} {f_next_place : Addr} {od_next_place an_next_place : Option Addr} {sl_next_place : Array (Option Value)} {oc_next_place kV_next_place dc_next_place pm_next_place cd_next_place ct_next_place : Value} {f_behind : Addr} {od_behind an_behind : Option Addr} {sl_behind : Array (Option Value)} {oc_behind kV_behind dc_behind pm_behind cd_behind ct_behind : Value} {f_renamed : Addr} {od_renamed an_renamed : Option Addr} {sl_renamed : Array (Option Value)} {oc_renamed kV_renamed dc_renamed pm_renamed cd_renamed ct_renamed : Value} {f_are_new_numbers : Addr} {od_are_new_numbers an_are_new_numbers : Option Addr} {sl_are_new_numbers : Array (Option Value)} {oc_are_new_numbers kV_are_new_numbers dc_are_new_numbers pm_are_new_numbers cd_are_new_numbers ct_are_new_numbers : Value} {f_places_along : Addr} {od_places_along an_places_along : Option Addr} {sl_places_along : Array (Option Value)} {oc_places_along kV_places_along dc_places_along pm_places_along cd_places_along ct_places_along : Value} {f_yards_behind : Addr} {od_yards_behind an_yards_behind : Option Addr} {sl_yards_behind : Array (Option Value)} {oc_yards_behind kV_yards_behind dc_yards_behind pm_yards_behind cd_yards_behind ct_yards_behind : Value} {f_lanes_along : Addr} {od_lanes_along an_lanes_along : Option Addr} {sl_lanes_along : Array (Option Value)} {oc_lanes_along kV_lanes_along dc_lanes_along pm_lanes_along cd_lanes_along ct_lanes_along : Value} {f_l_pot : Addr} {od_l_pot an_l_pot : Option Addr} {sl_l_pot : Array (Option Value)} {oc_l_pot kV_l_pot dc_l_pot pm_l_pot cd_l_pot ct_l_pot : Value} {f_l_draw : Addr} {od_l_draw an_l_draw : Option Addr} {sl_l_draw : Array (Option Value)} {oc_l_draw kV_l_draw dc_l_draw pm_l_draw cd_l_draw ct_l_draw : Value} {f_l_pick : Addr} {od_l_pick an_l_pick : Option Addr} {sl_l_pick : Array (Option Value)} {oc_l_pick kV_l_pick dc_l_pick pm_l_pick cd_l_pick ct_l_pick : Value} {f_l_drawn : Addr} {od_l_drawn an_l_drawn : Option Addr} {sl_l_drawn : Array (Option Value)} {oc_l_drawn kV_l_drawn dc_l_drawn pm_l_drawn cd_l_drawn ct_l_drawn : Value} {f_l_beside : Addr} {od_l_beside an_l_beside : Option Addr} {sl_l_beside : Array (Option Value)} {oc_l_beside kV_l_beside dc_l_beside pm_l_beside cd_l_beside ct_l_beside : Value} {f_l_yards : Addr} {od_l_yards an_l_yards : Option Addr} {sl_l_yards : Array (Option Value)} {oc_l_yards kV_l_yards dc_l_yards pm_l_yards cd_l_yards ct_l_yards : Value} {f_l_gates : Addr} {od_l_gates an_l_gates : Option Addr} {sl_l_gates : Array (Option Value)} {oc_l_gates kV_l_gates dc_l_gates pm_l_gates cd_l_gates ct_l_gates : Value} {f_l_numbers : Addr} {od_l_numbers an_l_numbers : Option Addr} {sl_l_numbers : Array (Option Value)} {oc_l_numbers kV_l_numbers dc_l_numbers pm_l_numbers cd_l_numbers ct_l_numbers : Value} {f_l_led_right : Addr} {od_l_led_right an_l_led_right : Option Addr} {sl_l_led_right : Array (Option Value)} {oc_l_led_right kV_l_led_right dc_l_led_right pm_l_led_right cd_l_led_right ct_l_led_right : Value} {f_l_right : Addr} {od_l_right an_l_right : Option Addr} {sl_l_right : Array (Option Value)} {oc_l_right kV_l_right dc_l_right pm_l_right cd_l_right ct_l_right : Value} {f_law : Addr} {od_law an_law : Option Addr} {sl_law : Array (Option Value)} {oc_law kV_law dc_law pm_law cd_law ct_law : Value} {t_MOST_LANES_AT_A_PLACE : Tok} {t_MOST_YARDS : Tok}
    (aC_Country : PySem.W.nsIn K mainGlobals "Country" = some (some (.ref C_Country)))
    (a_is_count : PySem.W.nsIn K mainGlobals "is_count" = some (some (.ref f_is_count)))
    (l_is_count : K.lookup f_is_count = some ⟨oc_is_count, od_is_count, .func (PySem.W.fnOf "is_count" "is_count" (defArgs s_is_count) (defBody s_is_count) (defScope s_is_count) .none kV_is_count dc_is_count pm_is_count an_is_count cd_is_count ct_is_count), sl_is_count⟩)
    (c_is_count : PySem.W.codeIn K cd_is_count "is_count" = true)
    (k_is_count : PySem.W.keepIn K (.ref f_is_count) = true)
    (a_is_row : PySem.W.nsIn K mainGlobals "is_row" = some (some (.ref f_is_row)))
    (l_is_row : K.lookup f_is_row = some ⟨oc_is_row, od_is_row, .func (PySem.W.fnOf "is_row" "is_row" (defArgs s_is_row) (defBody s_is_row) (defScope s_is_row) .none kV_is_row dc_is_row pm_is_row an_is_row cd_is_row ct_is_row), sl_is_row⟩)
    (c_is_row : PySem.W.codeIn K cd_is_row "is_row" = true)
    (k_is_row : PySem.W.keepIn K (.ref f_is_row) = true)
    (a_Country_init : PySem.W.findIn K (.ref C_Country) "__init__" = some (some (.ref f_Country_init)))
    (i_Country_init : PySem.W.isFn K (.ref f_Country_init) = true)
    (l_Country_init : K.lookup f_Country_init = some ⟨oc_Country_init, od_Country_init, .func (PySem.W.fnOf "__init__" "Country.__init__" (defArgs s_Country_init) (defBody s_Country_init) (defScope s_Country_init) .none kV_Country_init dc_Country_init pm_Country_init an_Country_init cd_Country_init ct_Country_init), sl_Country_init⟩)
    (c_Country_init : PySem.W.codeIn K cd_Country_init "Country.__init__" = true)
    (k_Country_init : PySem.W.keepIn K (.ref f_Country_init) = true)
    (a_Country_lanes : PySem.W.findIn K (.ref C_Country) "lanes" = some (some (.ref p_Country_lanes)))
    (g_Country_lanes : PySem.W.specialIn K (.ref p_Country_lanes) "__get__" = some (some (.builtin "property.__get__")))
    (t_Country_lanes : PySem.W.takesIn K (.ref p_Country_lanes) = some true)
    (r_Country_lanes : PySem.W.recIn K p_Country_lanes "property" = some (.ref f_Country_lanes :: rs_Country_lanes))
    (l_Country_lanes : K.lookup f_Country_lanes = some ⟨oc_Country_lanes, od_Country_lanes, .func (PySem.W.fnOf "lanes" "Country.lanes" (defArgs s_Country_lanes) (defBody s_Country_lanes) (defScope s_Country_lanes) .none kV_Country_lanes dc_Country_lanes pm_Country_lanes an_Country_lanes cd_Country_lanes ct_Country_lanes), sl_Country_lanes⟩)
    (c_Country_lanes : PySem.W.codeIn K cd_Country_lanes "Country.lanes" = true)
    (k_Country_lanes : PySem.W.keepIn K (.ref f_Country_lanes) = true)
    (a_Country_yards : PySem.W.findIn K (.ref C_Country) "yards" = some (some (.ref p_Country_yards)))
    (g_Country_yards : PySem.W.specialIn K (.ref p_Country_yards) "__get__" = some (some (.builtin "property.__get__")))
    (t_Country_yards : PySem.W.takesIn K (.ref p_Country_yards) = some true)
    (r_Country_yards : PySem.W.recIn K p_Country_yards "property" = some (.ref f_Country_yards :: rs_Country_yards))
    (l_Country_yards : K.lookup f_Country_yards = some ⟨oc_Country_yards, od_Country_yards, .func (PySem.W.fnOf "yards" "Country.yards" (defArgs s_Country_yards) (defBody s_Country_yards) (defScope s_Country_yards) .none kV_Country_yards dc_Country_yards pm_Country_yards an_Country_yards cd_Country_yards ct_Country_yards), sl_Country_yards⟩)
    (c_Country_yards : PySem.W.codeIn K cd_Country_yards "Country.yards" = true)
    (k_Country_yards : PySem.W.keepIn K (.ref f_Country_yards) = true)
    (a_Country_gates : PySem.W.findIn K (.ref C_Country) "gates" = some (some (.ref p_Country_gates)))
    (g_Country_gates : PySem.W.specialIn K (.ref p_Country_gates) "__get__" = some (some (.builtin "property.__get__")))
    (t_Country_gates : PySem.W.takesIn K (.ref p_Country_gates) = some true)
    (r_Country_gates : PySem.W.recIn K p_Country_gates "property" = some (.ref f_Country_gates :: rs_Country_gates))
    (l_Country_gates : K.lookup f_Country_gates = some ⟨oc_Country_gates, od_Country_gates, .func (PySem.W.fnOf "gates" "Country.gates" (defArgs s_Country_gates) (defBody s_Country_gates) (defScope s_Country_gates) .none kV_Country_gates dc_Country_gates pm_Country_gates an_Country_gates cd_Country_gates ct_Country_gates), sl_Country_gates⟩)
    (c_Country_gates : PySem.W.codeIn K cd_Country_gates "Country.gates" = true)
    (k_Country_gates : PySem.W.keepIn K (.ref f_Country_gates) = true)
    (a_Country_neighbours : PySem.W.findIn K (.ref C_Country) "neighbours" = some (some (.ref f_Country_neighbours)))
    (i_Country_neighbours : PySem.W.isFn K (.ref f_Country_neighbours) = true)
    (l_Country_neighbours : K.lookup f_Country_neighbours = some ⟨oc_Country_neighbours, od_Country_neighbours, .func (PySem.W.fnOf "neighbours" "Country.neighbours" (defArgs s_Country_neighbours) (defBody s_Country_neighbours) (defScope s_Country_neighbours) .none kV_Country_neighbours dc_Country_neighbours pm_Country_neighbours an_Country_neighbours cd_Country_neighbours ct_Country_neighbours), sl_Country_neighbours⟩)
    (c_Country_neighbours : PySem.W.codeIn K cd_Country_neighbours "Country.neighbours" = true)
    (k_Country_neighbours : PySem.W.keepIn K (.ref f_Country_neighbours) = true)
    (a_Country_ahead : PySem.W.findIn K (.ref C_Country) "ahead" = some (some (.ref f_Country_ahead)))
    (i_Country_ahead : PySem.W.isFn K (.ref f_Country_ahead) = true)
    (l_Country_ahead : K.lookup f_Country_ahead = some ⟨oc_Country_ahead, od_Country_ahead, .func (PySem.W.fnOf "ahead" "Country.ahead" (defArgs s_Country_ahead) (defBody s_Country_ahead) (defScope s_Country_ahead) .none kV_Country_ahead dc_Country_ahead pm_Country_ahead an_Country_ahead cd_Country_ahead ct_Country_ahead), sl_Country_ahead⟩)
    (c_Country_ahead : PySem.W.codeIn K cd_Country_ahead "Country.ahead" = true)
    (k_Country_ahead : PySem.W.keepIn K (.ref f_Country_ahead) = true)
    (a_Country_eq : PySem.W.findIn K (.ref C_Country) "__eq__" = some (some (.ref f_Country_eq)))
    (i_Country_eq : PySem.W.isFn K (.ref f_Country_eq) = true)
    (l_Country_eq : K.lookup f_Country_eq = some ⟨oc_Country_eq, od_Country_eq, .func (PySem.W.fnOf "__eq__" "Country.__eq__" (defArgs s_Country_eq) (defBody s_Country_eq) (defScope s_Country_eq) .none kV_Country_eq dc_Country_eq pm_Country_eq an_Country_eq cd_Country_eq ct_Country_eq), sl_Country_eq⟩)
    (c_Country_eq : PySem.W.codeIn K cd_Country_eq "Country.__eq__" = true)
    (k_Country_eq : PySem.W.keepIn K (.ref f_Country_eq) = true)
    (a_is_place : PySem.W.nsIn K mainGlobals "is_place" = some (some (.ref f_is_place)))
    (l_is_place : K.lookup f_is_place = some ⟨oc_is_place, od_is_place, .func (PySem.W.fnOf "is_place" "is_place" (defArgs s_is_place) (defBody s_is_place) (defScope s_is_place) .none kV_is_place dc_is_place pm_is_place an_is_place cd_is_place ct_is_place), sl_is_place⟩)
    (c_is_place : PySem.W.codeIn K cd_is_place "is_place" = true)
    (k_is_place : PySem.W.keepIn K (.ref f_is_place) = true)
    (a_is_yard : PySem.W.nsIn K mainGlobals "is_yard" = some (some (.ref f_is_yard)))
    (l_is_yard : K.lookup f_is_yard = some ⟨oc_is_yard, od_is_yard, .func (PySem.W.fnOf "is_yard" "is_yard" (defArgs s_is_yard) (defBody s_is_yard) (defScope s_is_yard) .none kV_is_yard dc_is_yard pm_is_yard an_is_yard cd_is_yard ct_is_yard), sl_is_yard⟩)
    (c_is_yard : PySem.W.codeIn K cd_is_yard "is_yard" = true)
    (k_is_yard : PySem.W.keepIn K (.ref f_is_yard) = true)
    (a_is_neighbour : PySem.W.nsIn K mainGlobals "is_neighbour" = some (some (.ref f_is_neighbour)))
    (l_is_neighbour : K.lookup f_is_neighbour = some ⟨oc_is_neighbour, od_is_neighbour, .func (PySem.W.fnOf "is_neighbour" "is_neighbour" (defArgs s_is_neighbour) (defBody s_is_neighbour) (defScope s_is_neighbour) .none kV_is_neighbour dc_is_neighbour pm_is_neighbour an_is_neighbour cd_is_neighbour ct_is_neighbour), sl_is_neighbour⟩)
    (c_is_neighbour : PySem.W.codeIn K cd_is_neighbour "is_neighbour" = true)
    (k_is_neighbour : PySem.W.keepIn K (.ref f_is_neighbour) = true)
    (a_are_lanes : PySem.W.nsIn K mainGlobals "are_lanes" = some (some (.ref f_are_lanes)))
    (l_are_lanes : K.lookup f_are_lanes = some ⟨oc_are_lanes, od_are_lanes, .func (PySem.W.fnOf "are_lanes" "are_lanes" (defArgs s_are_lanes) (defBody s_are_lanes) (defScope s_are_lanes) .none kV_are_lanes dc_are_lanes pm_are_lanes an_are_lanes cd_are_lanes ct_are_lanes), sl_are_lanes⟩)
    (c_are_lanes : PySem.W.codeIn K cd_are_lanes "are_lanes" = true)
    (k_are_lanes : PySem.W.keepIn K (.ref f_are_lanes) = true)
    (a_is_pair_up_to : PySem.W.nsIn K mainGlobals "is_pair_up_to" = some (some (.ref f_is_pair_up_to)))
    (l_is_pair_up_to : K.lookup f_is_pair_up_to = some ⟨oc_is_pair_up_to, od_is_pair_up_to, .func (PySem.W.fnOf "is_pair_up_to" "is_pair_up_to" (defArgs s_is_pair_up_to) (defBody s_is_pair_up_to) (defScope s_is_pair_up_to) .none kV_is_pair_up_to dc_is_pair_up_to pm_is_pair_up_to an_is_pair_up_to cd_is_pair_up_to ct_is_pair_up_to), sl_is_pair_up_to⟩)
    (c_is_pair_up_to : PySem.W.codeIn K cd_is_pair_up_to "is_pair_up_to" = true)
    (k_is_pair_up_to : PySem.W.keepIn K (.ref f_is_pair_up_to) = true)
    (a_neighbours_by_place : PySem.W.nsIn K mainGlobals "neighbours_by_place" = some (some (.ref f_neighbours_by_place)))
    (l_neighbours_by_place : K.lookup f_neighbours_by_place = some ⟨oc_neighbours_by_place, od_neighbours_by_place, .func (PySem.W.fnOf "neighbours_by_place" "neighbours_by_place" (defArgs s_neighbours_by_place) (defBody s_neighbours_by_place) (defScope s_neighbours_by_place) .none kV_neighbours_by_place dc_neighbours_by_place pm_neighbours_by_place an_neighbours_by_place cd_neighbours_by_place ct_neighbours_by_place), sl_neighbours_by_place⟩)
    (c_neighbours_by_place : PySem.W.codeIn K cd_neighbours_by_place "neighbours_by_place" = true)
    (k_neighbours_by_place : PySem.W.keepIn K (.ref f_neighbours_by_place) = true)
    (a_yards_among : PySem.W.nsIn K mainGlobals "yards_among" = some (some (.ref f_yards_among)))
    (l_yards_among : K.lookup f_yards_among = some ⟨oc_yards_among, od_yards_among, .func (PySem.W.fnOf "yards_among" "yards_among" (defArgs s_yards_among) (defBody s_yards_among) (defScope s_yards_among) .none kV_yards_among dc_yards_among pm_yards_among an_yards_among cd_yards_among ct_yards_among), sl_yards_among⟩)
    (c_yards_among : PySem.W.codeIn K cd_yards_among "yards_among" = true)
    (k_yards_among : PySem.W.keepIn K (.ref f_yards_among) = true)
    (a_places_ahead : PySem.W.nsIn K mainGlobals "places_ahead" = some (some (.ref f_places_ahead)))
    (l_places_ahead : K.lookup f_places_ahead = some ⟨oc_places_ahead, od_places_ahead, .func (PySem.W.fnOf "places_ahead" "places_ahead" (defArgs s_places_ahead) (defBody s_places_ahead) (defScope s_places_ahead) .none kV_places_ahead dc_places_ahead pm_places_ahead an_places_ahead cd_places_ahead ct_places_ahead), sl_places_ahead⟩)
    (c_places_ahead : PySem.W.codeIn K cd_places_ahead "places_ahead" = true)
    (k_places_ahead : PySem.W.keepIn K (.ref f_places_ahead) = true)
    (a_check_country : PySem.W.nsIn K mainGlobals "check_country" = some (some (.ref f_check_country)))
    (l_check_country : K.lookup f_check_country = some ⟨oc_check_country, od_check_country, .func (PySem.W.fnOf "check_country" "check_country" (defArgs s_check_country) (defBody s_check_country) (defScope s_check_country) .none kV_check_country dc_check_country pm_check_country an_check_country cd_check_country ct_check_country), sl_check_country⟩)
    (c_check_country : PySem.W.codeIn K cd_check_country "check_country" = true)
    (k_check_country : PySem.W.keepIn K (.ref f_check_country) = true)
    (a_check_place : PySem.W.nsIn K mainGlobals "check_place" = some (some (.ref f_check_place)))
    (l_check_place : K.lookup f_check_place = some ⟨oc_check_place, od_check_place, .func (PySem.W.fnOf "check_place" "check_place" (defArgs s_check_place) (defBody s_check_place) (defScope s_check_place) .none kV_check_place dc_check_place pm_check_place an_check_place cd_check_place ct_check_place), sl_check_place⟩)
    (c_check_place : PySem.W.codeIn K cd_check_place "check_place" = true)
    (k_check_place : PySem.W.keepIn K (.ref f_check_place) = true)
    (a_check_yard : PySem.W.nsIn K mainGlobals "check_yard" = some (some (.ref f_check_yard)))
    (l_check_yard : K.lookup f_check_yard = some ⟨oc_check_yard, od_check_yard, .func (PySem.W.fnOf "check_yard" "check_yard" (defArgs s_check_yard) (defBody s_check_yard) (defScope s_check_yard) .none kV_check_yard dc_check_yard pm_check_yard an_check_yard cd_check_yard ct_check_yard), sl_check_yard⟩)
    (c_check_yard : PySem.W.codeIn K cd_check_yard "check_yard" = true)
    (k_check_yard : PySem.W.keepIn K (.ref f_check_yard) = true)
    (a_check_country_and_yard : PySem.W.nsIn K mainGlobals "check_country_and_yard" = some (some (.ref f_check_country_and_yard)))
    (l_check_country_and_yard : K.lookup f_check_country_and_yard = some ⟨oc_check_country_and_yard, od_check_country_and_yard, .func (PySem.W.fnOf "check_country_and_yard" "check_country_and_yard" (defArgs s_check_country_and_yard) (defBody s_check_country_and_yard) (defScope s_check_country_and_yard) .none kV_check_country_and_yard dc_check_country_and_yard pm_check_country_and_yard an_check_country_and_yard cd_check_country_and_yard ct_check_country_and_yard), sl_check_country_and_yard⟩)
    (c_check_country_and_yard : PySem.W.codeIn K cd_check_country_and_yard "check_country_and_yard" = true)
    (k_check_country_and_yard : PySem.W.keepIn K (.ref f_check_country_and_yard) = true)
    (a_check_target : PySem.W.nsIn K mainGlobals "check_target" = some (some (.ref f_check_target)))
    (l_check_target : K.lookup f_check_target = some ⟨oc_check_target, od_check_target, .func (PySem.W.fnOf "check_target" "check_target" (defArgs s_check_target) (defBody s_check_target) (defScope s_check_target) .none kV_check_target dc_check_target pm_check_target an_check_target cd_check_target ct_check_target), sl_check_target⟩)
    (c_check_target : PySem.W.codeIn K cd_check_target "check_target" = true)
    (k_check_target : PySem.W.keepIn K (.ref f_check_target) = true)
    (a_way : PySem.W.nsIn K mainGlobals "way" = some (some (.ref f_way)))
    (l_way : K.lookup f_way = some ⟨oc_way, od_way, .func (PySem.W.fnOf "way" "way" (defArgs s_way) (defBody s_way) (defScope s_way) .none kV_way dc_way pm_way an_way cd_way ct_way), sl_way⟩)
    (c_way : PySem.W.codeIn K cd_way "way" = true)
    (k_way : PySem.W.keepIn K (.ref f_way) = true)
    (a_distance : PySem.W.nsIn K mainGlobals "distance" = some (some (.ref f_distance)))
    (l_distance : K.lookup f_distance = some ⟨oc_distance, od_distance, .func (PySem.W.fnOf "distance" "distance" (defArgs s_distance) (defBody s_distance) (defScope s_distance) .none kV_distance dc_distance pm_distance an_distance cd_distance ct_distance), sl_distance⟩)
    (c_distance : PySem.W.codeIn K cd_distance "distance" = true)
    (k_distance : PySem.W.keepIn K (.ref f_distance) = true)
    (a_next_place : PySem.W.nsIn K mainGlobals "next_place" = some (some (.ref f_next_place)))
    (l_next_place : K.lookup f_next_place = some ⟨oc_next_place, od_next_place, .func (PySem.W.fnOf "next_place" "next_place" (defArgs s_next_place) (defBody s_next_place) (defScope s_next_place) .none kV_next_place dc_next_place pm_next_place an_next_place cd_next_place ct_next_place), sl_next_place⟩)
    (c_next_place : PySem.W.codeIn K cd_next_place "next_place" = true)
    (k_next_place : PySem.W.keepIn K (.ref f_next_place) = true)
    (a_behind : PySem.W.nsIn K mainGlobals "behind" = some (some (.ref f_behind)))
    (l_behind : K.lookup f_behind = some ⟨oc_behind, od_behind, .func (PySem.W.fnOf "behind" "behind" (defArgs s_behind) (defBody s_behind) (defScope s_behind) .none kV_behind dc_behind pm_behind an_behind cd_behind ct_behind), sl_behind⟩)
    (c_behind : PySem.W.codeIn K cd_behind "behind" = true)
    (k_behind : PySem.W.keepIn K (.ref f_behind) = true)
    (a_renamed : PySem.W.nsIn K mainGlobals "renamed" = some (some (.ref f_renamed)))
    (l_renamed : K.lookup f_renamed = some ⟨oc_renamed, od_renamed, .func (PySem.W.fnOf "renamed" "renamed" (defArgs s_renamed) (defBody s_renamed) (defScope s_renamed) .none kV_renamed dc_renamed pm_renamed an_renamed cd_renamed ct_renamed), sl_renamed⟩)
    (c_renamed : PySem.W.codeIn K cd_renamed "renamed" = true)
    (k_renamed : PySem.W.keepIn K (.ref f_renamed) = true)
    (a_are_new_numbers : PySem.W.nsIn K mainGlobals "are_new_numbers" = some (some (.ref f_are_new_numbers)))
    (l_are_new_numbers : K.lookup f_are_new_numbers = some ⟨oc_are_new_numbers, od_are_new_numbers, .func (PySem.W.fnOf "are_new_numbers" "are_new_numbers" (defArgs s_are_new_numbers) (defBody s_are_new_numbers) (defScope s_are_new_numbers) .none kV_are_new_numbers dc_are_new_numbers pm_are_new_numbers an_are_new_numbers cd_are_new_numbers ct_are_new_numbers), sl_are_new_numbers⟩)
    (c_are_new_numbers : PySem.W.codeIn K cd_are_new_numbers "are_new_numbers" = true)
    (k_are_new_numbers : PySem.W.keepIn K (.ref f_are_new_numbers) = true)
    (a_places_along : PySem.W.nsIn K mainGlobals "places_along" = some (some (.ref f_places_along)))
    (l_places_along : K.lookup f_places_along = some ⟨oc_places_along, od_places_along, .func (PySem.W.fnOf "places_along" "places_along" (defArgs s_places_along) (defBody s_places_along) (defScope s_places_along) .none kV_places_along dc_places_along pm_places_along an_places_along cd_places_along ct_places_along), sl_places_along⟩)
    (c_places_along : PySem.W.codeIn K cd_places_along "places_along" = true)
    (k_places_along : PySem.W.keepIn K (.ref f_places_along) = true)
    (a_yards_behind : PySem.W.nsIn K mainGlobals "yards_behind" = some (some (.ref f_yards_behind)))
    (l_yards_behind : K.lookup f_yards_behind = some ⟨oc_yards_behind, od_yards_behind, .func (PySem.W.fnOf "yards_behind" "yards_behind" (defArgs s_yards_behind) (defBody s_yards_behind) (defScope s_yards_behind) .none kV_yards_behind dc_yards_behind pm_yards_behind an_yards_behind cd_yards_behind ct_yards_behind), sl_yards_behind⟩)
    (c_yards_behind : PySem.W.codeIn K cd_yards_behind "yards_behind" = true)
    (k_yards_behind : PySem.W.keepIn K (.ref f_yards_behind) = true)
    (a_lanes_along : PySem.W.nsIn K mainGlobals "lanes_along" = some (some (.ref f_lanes_along)))
    (l_lanes_along : K.lookup f_lanes_along = some ⟨oc_lanes_along, od_lanes_along, .func (PySem.W.fnOf "lanes_along" "lanes_along" (defArgs s_lanes_along) (defBody s_lanes_along) (defScope s_lanes_along) .none kV_lanes_along dc_lanes_along pm_lanes_along an_lanes_along cd_lanes_along ct_lanes_along), sl_lanes_along⟩)
    (c_lanes_along : PySem.W.codeIn K cd_lanes_along "lanes_along" = true)
    (k_lanes_along : PySem.W.keepIn K (.ref f_lanes_along) = true)
    (a_l_pot : PySem.W.nsIn K mainGlobals "_law_pot" = some (some (.ref f_l_pot)))
    (l_l_pot : K.lookup f_l_pot = some ⟨oc_l_pot, od_l_pot, .func (PySem.W.fnOf "_law_pot" "_law_pot" (defArgs s_l_pot) (defBody s_l_pot) (defScope s_l_pot) .none kV_l_pot dc_l_pot pm_l_pot an_l_pot cd_l_pot ct_l_pot), sl_l_pot⟩)
    (c_l_pot : PySem.W.codeIn K cd_l_pot "_law_pot" = true)
    (k_l_pot : PySem.W.keepIn K (.ref f_l_pot) = true)
    (a_l_draw : PySem.W.nsIn K mainGlobals "_law_draw" = some (some (.ref f_l_draw)))
    (l_l_draw : K.lookup f_l_draw = some ⟨oc_l_draw, od_l_draw, .func (PySem.W.fnOf "_law_draw" "_law_draw" (defArgs s_l_draw) (defBody s_l_draw) (defScope s_l_draw) .none kV_l_draw dc_l_draw pm_l_draw an_l_draw cd_l_draw ct_l_draw), sl_l_draw⟩)
    (c_l_draw : PySem.W.codeIn K cd_l_draw "_law_draw" = true)
    (k_l_draw : PySem.W.keepIn K (.ref f_l_draw) = true)
    (a_l_pick : PySem.W.nsIn K mainGlobals "_law_pick" = some (some (.ref f_l_pick)))
    (l_l_pick : K.lookup f_l_pick = some ⟨oc_l_pick, od_l_pick, .func (PySem.W.fnOf "_law_pick" "_law_pick" (defArgs s_l_pick) (defBody s_l_pick) (defScope s_l_pick) .none kV_l_pick dc_l_pick pm_l_pick an_l_pick cd_l_pick ct_l_pick), sl_l_pick⟩)
    (c_l_pick : PySem.W.codeIn K cd_l_pick "_law_pick" = true)
    (k_l_pick : PySem.W.keepIn K (.ref f_l_pick) = true)
    (a_l_drawn : PySem.W.nsIn K mainGlobals "_law_drawn" = some (some (.ref f_l_drawn)))
    (l_l_drawn : K.lookup f_l_drawn = some ⟨oc_l_drawn, od_l_drawn, .func (PySem.W.fnOf "_law_drawn" "_law_drawn" (defArgs s_l_drawn) (defBody s_l_drawn) (defScope s_l_drawn) .none kV_l_drawn dc_l_drawn pm_l_drawn an_l_drawn cd_l_drawn ct_l_drawn), sl_l_drawn⟩)
    (c_l_drawn : PySem.W.codeIn K cd_l_drawn "_law_drawn" = true)
    (k_l_drawn : PySem.W.keepIn K (.ref f_l_drawn) = true)
    (a_l_beside : PySem.W.nsIn K mainGlobals "_law_beside" = some (some (.ref f_l_beside)))
    (l_l_beside : K.lookup f_l_beside = some ⟨oc_l_beside, od_l_beside, .func (PySem.W.fnOf "_law_beside" "_law_beside" (defArgs s_l_beside) (defBody s_l_beside) (defScope s_l_beside) .none kV_l_beside dc_l_beside pm_l_beside an_l_beside cd_l_beside ct_l_beside), sl_l_beside⟩)
    (c_l_beside : PySem.W.codeIn K cd_l_beside "_law_beside" = true)
    (k_l_beside : PySem.W.keepIn K (.ref f_l_beside) = true)
    (a_l_yards : PySem.W.nsIn K mainGlobals "_law_yards" = some (some (.ref f_l_yards)))
    (l_l_yards : K.lookup f_l_yards = some ⟨oc_l_yards, od_l_yards, .func (PySem.W.fnOf "_law_yards" "_law_yards" (defArgs s_l_yards) (defBody s_l_yards) (defScope s_l_yards) .none kV_l_yards dc_l_yards pm_l_yards an_l_yards cd_l_yards ct_l_yards), sl_l_yards⟩)
    (c_l_yards : PySem.W.codeIn K cd_l_yards "_law_yards" = true)
    (k_l_yards : PySem.W.keepIn K (.ref f_l_yards) = true)
    (a_l_gates : PySem.W.nsIn K mainGlobals "_law_gates" = some (some (.ref f_l_gates)))
    (l_l_gates : K.lookup f_l_gates = some ⟨oc_l_gates, od_l_gates, .func (PySem.W.fnOf "_law_gates" "_law_gates" (defArgs s_l_gates) (defBody s_l_gates) (defScope s_l_gates) .none kV_l_gates dc_l_gates pm_l_gates an_l_gates cd_l_gates ct_l_gates), sl_l_gates⟩)
    (c_l_gates : PySem.W.codeIn K cd_l_gates "_law_gates" = true)
    (k_l_gates : PySem.W.keepIn K (.ref f_l_gates) = true)
    (a_l_numbers : PySem.W.nsIn K mainGlobals "_law_numbers" = some (some (.ref f_l_numbers)))
    (l_l_numbers : K.lookup f_l_numbers = some ⟨oc_l_numbers, od_l_numbers, .func (PySem.W.fnOf "_law_numbers" "_law_numbers" (defArgs s_l_numbers) (defBody s_l_numbers) (defScope s_l_numbers) .none kV_l_numbers dc_l_numbers pm_l_numbers an_l_numbers cd_l_numbers ct_l_numbers), sl_l_numbers⟩)
    (c_l_numbers : PySem.W.codeIn K cd_l_numbers "_law_numbers" = true)
    (k_l_numbers : PySem.W.keepIn K (.ref f_l_numbers) = true)
    (a_l_led_right : PySem.W.nsIn K mainGlobals "_law_led_right" = some (some (.ref f_l_led_right)))
    (l_l_led_right : K.lookup f_l_led_right = some ⟨oc_l_led_right, od_l_led_right, .func (PySem.W.fnOf "_law_led_right" "_law_led_right" (defArgs s_l_led_right) (defBody s_l_led_right) (defScope s_l_led_right) .none kV_l_led_right dc_l_led_right pm_l_led_right an_l_led_right cd_l_led_right ct_l_led_right), sl_l_led_right⟩)
    (c_l_led_right : PySem.W.codeIn K cd_l_led_right "_law_led_right" = true)
    (k_l_led_right : PySem.W.keepIn K (.ref f_l_led_right) = true)
    (a_l_right : PySem.W.nsIn K mainGlobals "_law_right" = some (some (.ref f_l_right)))
    (l_l_right : K.lookup f_l_right = some ⟨oc_l_right, od_l_right, .func (PySem.W.fnOf "_law_right" "_law_right" (defArgs s_l_right) (defBody s_l_right) (defScope s_l_right) .none kV_l_right dc_l_right pm_l_right an_l_right cd_l_right ct_l_right), sl_l_right⟩)
    (c_l_right : PySem.W.codeIn K cd_l_right "_law_right" = true)
    (k_l_right : PySem.W.keepIn K (.ref f_l_right) = true)
    (a_law : PySem.W.nsIn K mainGlobals "law" = some (some (.ref f_law)))
    (l_law : K.lookup f_law = some ⟨oc_law, od_law, .func (PySem.W.fnOf "law" "law" (defArgs s_law) (defBody s_law) (defScope s_law) .none kV_law dc_law pm_law an_law cd_law ct_law), sl_law⟩)
    (c_law : PySem.W.codeIn K cd_law "law" = true)
    (k_law : PySem.W.keepIn K (.ref f_law) = true)
    (pg_Country : PySem.W.plainGet K C_Country Str.empty = true)
    (hd_Country : PySem.W.hasDictIn K C_Country = true)
    (po_Country : PySem.W.plainOver K C_Country = true)
    (sa_Country : PySem.W.findIn K (.ref C_Country) "__setattr__" = some (some (.builtin "object.__setattr__")))
    (mk_Country : PySem.W.makesIn K C_Country = true)
    (kc_Country : PySem.W.keepIn K (.ref C_Country) = true)
    (ha_Country : PySem.W.findIn K (.ref C_Country) "__class__" = some (some (.builtin "object.__class__")))
    (hm_Country : PySem.W.mroIn K C_Country (.type "object") = some true)
    (ne_Country : PySem.W.findIn K (.ref C_Country) "__ne__" = some (some (.builtin "object.__ne__")))
    (na_Country_lanes : PySem.W.findIn K (.ref C_Country) "_lanes" = some none)
    (na_Country_around : PySem.W.findIn K (.ref C_Country) "_around" = some none)
    (na_Country_ahead : PySem.W.findIn K (.ref C_Country) "_ahead" = some none)
    (na_Country_yards : PySem.W.findIn K (.ref C_Country) "_yards" = some none)
    (na_Country_gates : PySem.W.findIn K (.ref C_Country) "_gates" = some none)
    (hn : PySem.W.specialIn K (.builtin "object.__class__") "__get__" = some (some (.builtin "getset_descriptor.__get__")))
    (htk : PySem.W.takesIn K (.builtin "object.__class__") = some true)
    (z_MOST_LANES_AT_A_PLACE : PySem.W.nsIn K mainGlobals "MOST_LANES_AT_A_PLACE" = some (some (.int 4 t_MOST_LANES_AT_A_PLACE)))
    (z_MOST_YARDS : PySem.W.nsIn K mainGlobals "MOST_YARDS" = some (some (.int 7 t_MOST_YARDS)))
    (z_abs : PySem.W.nsIn K mainGlobals "abs" = some none)
    (z_all : PySem.W.nsIn K mainGlobals "all" = some none)
    (z_bool : PySem.W.nsIn K mainGlobals "bool" = some none)
    (z_divmod : PySem.W.nsIn K mainGlobals "divmod" = some none)
    (z_int : PySem.W.nsIn K mainGlobals "int" = some none)
    (z_isinstance : PySem.W.nsIn K mainGlobals "isinstance" = some none)
    (z_len : PySem.W.nsIn K mainGlobals "len" = some none)
    (z_list : PySem.W.nsIn K mainGlobals "list" = some none)
    (z_max : PySem.W.nsIn K mainGlobals "max" = some none)
    (z_min : PySem.W.nsIn K mainGlobals "min" = some none)
    (z_range : PySem.W.nsIn K mainGlobals "range" = some none)
    (z_repr : PySem.W.nsIn K mainGlobals "repr" = some none)
    (z_sorted : PySem.W.nsIn K mainGlobals "sorted" = some none)
    (z_tuple : PySem.W.nsIn K mainGlobals "tuple" = some none)
    : ∃ fd : FuncData, (∀ (s : Shared) (v : Value), BindsTo s fd ⟨[v], []⟩ [("_law_script", v)]) ∧ ∀ base : Heap, G8.FnOkG P w K mg base CX0 10 fa fd ["_law_script"] (Pr.spLaw K) := by
  have e := hfa.symm.trans (PySem.W.mg_of X G a_law)
  cases e
  have F_is_count := fun_mk (st := s_is_count) l_is_count c_is_count k_is_count
  have b_is_count := F_is_count.binds (ps := ["value"]) fun _ _ _ _ _ _ us hl => match us, hl with | [_], _ => rfl
  have F_is_row := fun_mk (st := s_is_row) l_is_row c_is_row k_is_row
  have b_is_row := F_is_row.binds (ps := ["value"]) fun _ _ _ _ _ _ us hl => match us, hl with | [_], _ => rfl
  have F_Country_init := fun_mk (st := s_Country_init) l_Country_init c_Country_init k_Country_init
  have b_Country_init := F_Country_init.binds (ps := ["self", "lanes"]) fun _ _ _ _ _ _ us hl => match us, hl with | [_, _], _ => rfl
  have F_Country_lanes := fun_mk (st := s_Country_lanes) l_Country_lanes c_Country_lanes k_Country_lanes
  have b_Country_lanes := F_Country_lanes.binds (ps := ["self"]) fun _ _ _ _ _ _ us hl => match us, hl with | [_], _ => rfl
  have F_Country_yards := fun_mk (st := s_Country_yards) l_Country_yards c_Country_yards k_Country_yards
  have b_Country_yards := F_Country_yards.binds (ps := ["self"]) fun _ _ _ _ _ _ us hl => match us, hl with | [_], _ => rfl
  have F_Country_gates := fun_mk (st := s_Country_gates) l_Country_gates c_Country_gates k_Country_gates
  have b_Country_gates := F_Country_gates.binds (ps := ["self"]) fun _ _ _ _ _ _ us hl => match us, hl with | [_], _ => rfl
  have F_Country_neighbours := fun_mk (st := s_Country_neighbours) l_Country_neighbours c_Country_neighbours k_Country_neighbours
  have b_Country_neighbours := F_Country_neighbours.binds (ps := ["self", "place"]) fun _ _ _ _ _ _ us hl => match us, hl with | [_, _], _ => rfl
  have F_Country_ahead := fun_mk (st := s_Country_ahead) l_Country_ahead c_Country_ahead k_Country_ahead
  have b_Country_ahead := F_Country_ahead.binds (ps := ["self", "place", "goal"]) fun _ _ _ _ _ _ us hl => match us, hl with | [_, _, _], _ => rfl
  have F_Country_eq := fun_mk (st := s_Country_eq) l_Country_eq c_Country_eq k_Country_eq
  have b_Country_eq := F_Country_eq.binds (ps := ["self", "other"]) fun _ _ _ _ _ _ us hl => match us, hl with | [_, _], _ => rfl
  have F_is_place := fun_mk (st := s_is_place) l_is_place c_is_place k_is_place
  have b_is_place := F_is_place.binds (ps := ["country", "value"]) fun _ _ _ _ _ _ us hl => match us, hl with | [_, _], _ => rfl
  have F_is_yard := fun_mk (st := s_is_yard) l_is_yard c_is_yard k_is_yard
  have b_is_yard := F_is_yard.binds (ps := ["country", "value"]) fun _ _ _ _ _ _ us hl => match us, hl with | [_, _], _ => rfl
  have F_is_neighbour := fun_mk (st := s_is_neighbour) l_is_neighbour c_is_neighbour k_is_neighbour
  have b_is_neighbour := F_is_neighbour.binds (ps := ["country", "place", "value"]) fun _ _ _ _ _ _ us hl => match us, hl with | [_, _, _], _ => rfl
  have F_are_lanes := fun_mk (st := s_are_lanes) l_are_lanes c_are_lanes k_are_lanes
  have b_are_lanes := F_are_lanes.binds (ps := ["value"]) fun _ _ _ _ _ _ us hl => match us, hl with | [_], _ => rfl
  have F_is_pair_up_to := fun_mk (st := s_is_pair_up_to) l_is_pair_up_to c_is_pair_up_to k_is_pair_up_to
  have b_is_pair_up_to := F_is_pair_up_to.binds (ps := ["value", "last"]) fun _ _ _ _ _ _ us hl => match us, hl with | [_, _], _ => rfl
  have F_neighbours_by_place := fun_mk (st := s_neighbours_by_place) l_neighbours_by_place c_neighbours_by_place k_neighbours_by_place
  have b_neighbours_by_place := F_neighbours_by_place.binds (ps := ["lanes"]) fun _ _ _ _ _ _ us hl => match us, hl with | [_], _ => rfl
  have F_yards_among := fun_mk (st := s_yards_among) l_yards_among c_yards_among k_yards_among
  have b_yards_among := F_yards_among.binds (ps := ["around"]) fun _ _ _ _ _ _ us hl => match us, hl with | [_], _ => rfl
  have F_places_ahead := fun_mk (st := s_places_ahead) l_places_ahead c_places_ahead k_places_ahead
  have b_places_ahead := F_places_ahead.binds (ps := ["around", "goal"]) fun _ _ _ _ _ _ us hl => match us, hl with | [_, _], _ => rfl
  have F_check_country := fun_mk (st := s_check_country) l_check_country c_check_country k_check_country
  have b_check_country := F_check_country.binds (ps := ["country"]) fun _ _ _ _ _ _ us hl => match us, hl with | [_], _ => rfl
  have F_check_place := fun_mk (st := s_check_place) l_check_place c_check_place k_check_place
  have b_check_place := F_check_place.binds (ps := ["country", "place"]) fun _ _ _ _ _ _ us hl => match us, hl with | [_, _], _ => rfl
  have F_check_yard := fun_mk (st := s_check_yard) l_check_yard c_check_yard k_check_yard
  have b_check_yard := F_check_yard.binds (ps := ["country", "yard"]) fun _ _ _ _ _ _ us hl => match us, hl with | [_, _], _ => rfl
  have F_check_country_and_yard := fun_mk (st := s_check_country_and_yard) l_check_country_and_yard c_check_country_and_yard k_check_country_and_yard
  have b_check_country_and_yard := F_check_country_and_yard.binds (ps := ["country", "yard"]) fun _ _ _ _ _ _ us hl => match us, hl with | [_, _], _ => rfl
  have F_check_target := fun_mk (st := s_check_target) l_check_target c_check_target k_check_target
  have b_check_target := F_check_target.binds (ps := ["country", "yard", "target"]) fun _ _ _ _ _ _ us hl => match us, hl with | [_, _, _], _ => rfl
  have F_way := fun_mk (st := s_way) l_way c_way k_way
  have b_way := F_way.binds (ps := ["country", "start", "end"]) fun _ _ _ _ _ _ us hl => match us, hl with | [_, _, _], _ => rfl
  have F_distance := fun_mk (st := s_distance) l_distance c_distance k_distance
  have b_distance := F_distance.binds (ps := ["country", "place", "goal"]) fun _ _ _ _ _ _ us hl => match us, hl with | [_, _, _], _ => rfl
  have F_next_place := fun_mk (st := s_next_place) l_next_place c_next_place k_next_place
  have b_next_place := F_next_place.binds (ps := ["country", "place", "goal"]) fun _ _ _ _ _ _ us hl => match us, hl with | [_, _, _], _ => rfl
  have F_behind := fun_mk (st := s_behind) l_behind c_behind k_behind
  have b_behind := F_behind.binds (ps := ["country", "yard", "target"]) fun _ _ _ _ _ _ us hl => match us, hl with | [_, _, _], _ => rfl
  have F_renamed := fun_mk (st := s_renamed) l_renamed c_renamed k_renamed
  have b_renamed := F_renamed.binds (ps := ["country", "places"]) fun _ _ _ _ _ _ us hl => match us, hl with | [_, _], _ => rfl
  have F_are_new_numbers := fun_mk (st := s_are_new_numbers) l_are_new_numbers c_are_new_numbers k_are_new_numbers
  have b_are_new_numbers := F_are_new_numbers.binds (ps := ["country", "value"]) fun _ _ _ _ _ _ us hl => match us, hl with | [_, _], _ => rfl
  have F_places_along := fun_mk (st := s_places_along) l_places_along c_places_along k_places_along
  have b_places_along := F_places_along.binds (ps := ["country", "start", "end"]) fun _ _ _ _ _ _ us hl => match us, hl with | [_, _, _], _ => rfl
  have F_yards_behind := fun_mk (st := s_yards_behind) l_yards_behind c_yards_behind k_yards_behind
  have b_yards_behind := F_yards_behind.binds (ps := ["country", "yard", "target"]) fun _ _ _ _ _ _ us hl => match us, hl with | [_, _, _], _ => rfl
  have F_lanes_along := fun_mk (st := s_lanes_along) l_lanes_along c_lanes_along k_lanes_along
  have b_lanes_along := F_lanes_along.binds (ps := ["country", "place", "goal"]) fun _ _ _ _ _ _ us hl => match us, hl with | [_, _, _], _ => rfl
  have F_l_pot := fun_mk (st := s_l_pot) l_l_pot c_l_pot k_l_pot
  have b_l_pot := F_l_pot.binds (ps := ["_law_script", "_law_k"]) fun _ _ _ _ _ _ us hl => match us, hl with | [_, _], _ => rfl
  have F_l_draw := fun_mk (st := s_l_draw) l_l_draw c_l_draw k_l_draw
  have b_l_draw := F_l_draw.binds (ps := ["_law_pot_here", "_law_many"]) fun _ _ _ _ _ _ us hl => match us, hl with | [_, _], _ => rfl
  have F_l_pick := fun_mk (st := s_l_pick) l_l_pick c_l_pick k_l_pick
  have b_l_pick := F_l_pick.binds (ps := ["_law_pot_here", "_law_some"]) fun _ _ _ _ _ _ us hl => match us, hl with | [_, _], _ => rfl
  have F_l_drawn := fun_mk (st := s_l_drawn) l_l_drawn c_l_drawn k_l_drawn
  have b_l_drawn := F_l_drawn.binds (ps := ["_law_pot_here", "_law_most"]) fun _ _ _ _ _ _ us hl => match us, hl with | [_, _], _ => rfl
  have F_l_beside := fun_mk (st := s_l_beside) l_l_beside c_l_beside k_l_beside
  have b_l_beside := F_l_beside.binds (ps := ["_law_lanes", "_law_place"]) fun _ _ _ _ _ _ us hl => match us, hl with | [_, _], _ => rfl
  have F_l_yards := fun_mk (st := s_l_yards) l_l_yards c_l_yards k_l_yards
  have b_l_yards := F_l_yards.binds (ps := ["_law_lanes"]) fun _ _ _ _ _ _ us hl => match us, hl with | [_], _ => rfl
  have F_l_gates := fun_mk (st := s_l_gates) l_l_gates c_l_gates k_l_gates
  have b_l_gates := F_l_gates.binds (ps := ["_law_lanes"]) fun _ _ _ _ _ _ us hl => match us, hl with | [_], _ => rfl
  have F_l_numbers := fun_mk (st := s_l_numbers) l_l_numbers c_l_numbers k_l_numbers
  have b_l_numbers := F_l_numbers.binds (ps := ["_law_pot_here", "_law_many"]) fun _ _ _ _ _ _ us hl => match us, hl with | [_, _], _ => rfl
  have F_l_led_right := fun_mk (st := s_l_led_right) l_l_led_right c_l_led_right k_l_led_right
  have b_l_led_right := F_l_led_right.binds (ps := ["_law_country", "_law_late", "_law_places", "_law_lanes", "_law_one", "_law_other"]) fun _ _ _ _ _ _ us hl => match us, hl with | [_, _, _, _, _, _], _ => rfl
  have F_l_right := fun_mk (st := s_l_right) l_l_right c_l_right k_l_right
  have b_l_right := F_l_right.binds (ps := ["_law_pot_here"]) fun _ _ _ _ _ _ us hl => match us, hl with | [_], _ => rfl
  have F_law := fun_mk (st := s_law) l_law c_law k_law
  have b_law := F_law.binds (ps := ["_law_script"]) fun _ _ _ _ _ _ us hl => match us, hl with | [_], _ => rfl
  have cl_Country : Cls K C_Country := ⟨pg_Country, hd_Country, po_Country, sa_Country⟩
  have T : Txt K mg { is_count := f_is_count, is_count_fd := (PySem.W.fnOf "is_count" "is_count" (defArgs s_is_count) (defBody s_is_count) (defScope s_is_count) .none kV_is_count dc_is_count pm_is_count an_is_count cd_is_count ct_is_count), is_row := f_is_row, is_row_fd := (PySem.W.fnOf "is_row" "is_row" (defArgs s_is_row) (defBody s_is_row) (defScope s_is_row) .none kV_is_row dc_is_row pm_is_row an_is_row cd_is_row ct_is_row), Country_init := f_Country_init, Country_init_fd := (PySem.W.fnOf "__init__" "Country.__init__" (defArgs s_Country_init) (defBody s_Country_init) (defScope s_Country_init) .none kV_Country_init dc_Country_init pm_Country_init an_Country_init cd_Country_init ct_Country_init), Country_lanes := f_Country_lanes, Country_lanes_fd := (PySem.W.fnOf "lanes" "Country.lanes" (defArgs s_Country_lanes) (defBody s_Country_lanes) (defScope s_Country_lanes) .none kV_Country_lanes dc_Country_lanes pm_Country_lanes an_Country_lanes cd_Country_lanes ct_Country_lanes), Country_lanes_p := p_Country_lanes, Country_yards := f_Country_yards, Country_yards_fd := (PySem.W.fnOf "yards" "Country.yards" (defArgs s_Country_yards) (defBody s_Country_yards) (defScope s_Country_yards) .none kV_Country_yards dc_Country_yards pm_Country_yards an_Country_yards cd_Country_yards ct_Country_yards), Country_yards_p := p_Country_yards, Country_gates := f_Country_gates, Country_gates_fd := (PySem.W.fnOf "gates" "Country.gates" (defArgs s_Country_gates) (defBody s_Country_gates) (defScope s_Country_gates) .none kV_Country_gates dc_Country_gates pm_Country_gates an_Country_gates cd_Country_gates ct_Country_gates), Country_gates_p := p_Country_gates, Country_neighbours := f_Country_neighbours, Country_neighbours_fd := (PySem.W.fnOf "neighbours" "Country.neighbours" (defArgs s_Country_neighbours) (defBody s_Country_neighbours) (defScope s_Country_neighbours) .none kV_Country_neighbours dc_Country_neighbours pm_Country_neighbours an_Country_neighbours cd_Country_neighbours ct_Country_neighbours), Country_ahead := f_Country_ahead, Country_ahead_fd := (PySem.W.fnOf "ahead" "Country.ahead" (defArgs s_Country_ahead) (defBody s_Country_ahead) (defScope s_Country_ahead) .none kV_Country_ahead dc_Country_ahead pm_Country_ahead an_Country_ahead cd_Country_ahead ct_Country_ahead), Country_eq := f_Country_eq, Country_eq_fd := (PySem.W.fnOf "__eq__" "Country.__eq__" (defArgs s_Country_eq) (defBody s_Country_eq) (defScope s_Country_eq) .none kV_Country_eq dc_Country_eq pm_Country_eq an_Country_eq cd_Country_eq ct_Country_eq), is_place := f_is_place, is_place_fd := (PySem.W.fnOf "is_place" "is_place" (defArgs s_is_place) (defBody s_is_place) (defScope s_is_place) .none kV_is_place dc_is_place pm_is_place an_is_place cd_is_place ct_is_place), is_yard := f_is_yard, is_yard_fd := (PySem.W.fnOf "is_yard" "is_yard" (defArgs s_is_yard) (defBody s_is_yard) (defScope s_is_yard) .none kV_is_yard dc_is_yard pm_is_yard an_is_yard cd_is_yard ct_is_yard), is_neighbour := f_is_neighbour, is_neighbour_fd := (PySem.W.fnOf "is_neighbour" "is_neighbour" (defArgs s_is_neighbour) (defBody s_is_neighbour) (defScope s_is_neighbour) .none kV_is_neighbour dc_is_neighbour pm_is_neighbour an_is_neighbour cd_is_neighbour ct_is_neighbour), are_lanes := f_are_lanes, are_lanes_fd := (PySem.W.fnOf "are_lanes" "are_lanes" (defArgs s_are_lanes) (defBody s_are_lanes) (defScope s_are_lanes) .none kV_are_lanes dc_are_lanes pm_are_lanes an_are_lanes cd_are_lanes ct_are_lanes), is_pair_up_to := f_is_pair_up_to, is_pair_up_to_fd := (PySem.W.fnOf "is_pair_up_to" "is_pair_up_to" (defArgs s_is_pair_up_to) (defBody s_is_pair_up_to) (defScope s_is_pair_up_to) .none kV_is_pair_up_to dc_is_pair_up_to pm_is_pair_up_to an_is_pair_up_to cd_is_pair_up_to ct_is_pair_up_to), neighbours_by_place := f_neighbours_by_place, neighbours_by_place_fd := (PySem.W.fnOf "neighbours_by_place" "neighbours_by_place" (defArgs s_neighbours_by_place) (defBody s_neighbours_by_place) (defScope s_neighbours_by_place) .none kV_neighbours_by_place dc_neighbours_by_place pm_neighbours_by_place an_neighbours_by_place cd_neighbours_by_place ct_neighbours_by_place), yards_among := f_yards_among, yards_among_fd := (PySem.W.fnOf "yards_among" "yards_among" (defArgs s_yards_among) (defBody s_yards_among) (defScope s_yards_among) .none kV_yards_among dc_yards_among pm_yards_among an_yards_among cd_yards_among ct_yards_among), places_ahead := f_places_ahead, places_ahead_fd := (PySem.W.fnOf "places_ahead" "places_ahead" (defArgs s_places_ahead) (defBody s_places_ahead) (defScope s_places_ahead) .none kV_places_ahead dc_places_ahead pm_places_ahead an_places_ahead cd_places_ahead ct_places_ahead), check_country := f_check_country, check_country_fd := (PySem.W.fnOf "check_country" "check_country" (defArgs s_check_country) (defBody s_check_country) (defScope s_check_country) .none kV_check_country dc_check_country pm_check_country an_check_country cd_check_country ct_check_country), check_place := f_check_place, check_place_fd := (PySem.W.fnOf "check_place" "check_place" (defArgs s_check_place) (defBody s_check_place) (defScope s_check_place) .none kV_check_place dc_check_place pm_check_place an_check_place cd_check_place ct_check_place), check_yard := f_check_yard, check_yard_fd := (PySem.W.fnOf "check_yard" "check_yard" (defArgs s_check_yard) (defBody s_check_yard) (defScope s_check_yard) .none kV_check_yard dc_check_yard pm_check_yard an_check_yard cd_check_yard ct_check_yard), check_country_and_yard := f_check_country_and_yard, check_country_and_yard_fd := (PySem.W.fnOf "check_country_and_yard" "check_country_and_yard" (defArgs s_check_country_and_yard) (defBody s_check_country_and_yard) (defScope s_check_country_and_yard) .none kV_check_country_and_yard dc_check_country_and_yard pm_check_country_and_yard an_check_country_and_yard cd_check_country_and_yard ct_check_country_and_yard), check_target := f_check_target, check_target_fd := (PySem.W.fnOf "check_target" "check_target" (defArgs s_check_target) (defBody s_check_target) (defScope s_check_target) .none kV_check_target dc_check_target pm_check_target an_check_target cd_check_target ct_check_target), way := f_way, way_fd := (PySem.W.fnOf "way" "way" (defArgs s_way) (defBody s_way) (defScope s_way) .none kV_way dc_way pm_way an_way cd_way ct_way), distance := f_distance, distance_fd := (PySem.W.fnOf "distance" "distance" (defArgs s_distance) (defBody s_distance) (defScope s_distance) .none kV_distance dc_distance pm_distance an_distance cd_distance ct_distance), next_place := f_next_place, next_place_fd := (PySem.W.fnOf "next_place" "next_place" (defArgs s_next_place) (defBody s_next_place) (defScope s_next_place) .none kV_next_place dc_next_place pm_next_place an_next_place cd_next_place ct_next_place), behind := f_behind, behind_fd := (PySem.W.fnOf "behind" "behind" (defArgs s_behind) (defBody s_behind) (defScope s_behind) .none kV_behind dc_behind pm_behind an_behind cd_behind ct_behind), renamed := f_renamed, renamed_fd := (PySem.W.fnOf "renamed" "renamed" (defArgs s_renamed) (defBody s_renamed) (defScope s_renamed) .none kV_renamed dc_renamed pm_renamed an_renamed cd_renamed ct_renamed), are_new_numbers := f_are_new_numbers, are_new_numbers_fd := (PySem.W.fnOf "are_new_numbers" "are_new_numbers" (defArgs s_are_new_numbers) (defBody s_are_new_numbers) (defScope s_are_new_numbers) .none kV_are_new_numbers dc_are_new_numbers pm_are_new_numbers an_are_new_numbers cd_are_new_numbers ct_are_new_numbers), places_along := f_places_along, places_along_fd := (PySem.W.fnOf "places_along" "places_along" (defArgs s_places_along) (defBody s_places_along) (defScope s_places_along) .none kV_places_along dc_places_along pm_places_along an_places_along cd_places_along ct_places_along), yards_behind := f_yards_behind, yards_behind_fd := (PySem.W.fnOf "yards_behind" "yards_behind" (defArgs s_yards_behind) (defBody s_yards_behind) (defScope s_yards_behind) .none kV_yards_behind dc_yards_behind pm_yards_behind an_yards_behind cd_yards_behind ct_yards_behind), lanes_along := f_lanes_along, lanes_along_fd := (PySem.W.fnOf "lanes_along" "lanes_along" (defArgs s_lanes_along) (defBody s_lanes_along) (defScope s_lanes_along) .none kV_lanes_along dc_lanes_along pm_lanes_along an_lanes_along cd_lanes_along ct_lanes_along), l_pot := f_l_pot, l_pot_fd := (PySem.W.fnOf "_law_pot" "_law_pot" (defArgs s_l_pot) (defBody s_l_pot) (defScope s_l_pot) .none kV_l_pot dc_l_pot pm_l_pot an_l_pot cd_l_pot ct_l_pot), l_draw := f_l_draw, l_draw_fd := (PySem.W.fnOf "_law_draw" "_law_draw" (defArgs s_l_draw) (defBody s_l_draw) (defScope s_l_draw) .none kV_l_draw dc_l_draw pm_l_draw an_l_draw cd_l_draw ct_l_draw), l_pick := f_l_pick, l_pick_fd := (PySem.W.fnOf "_law_pick" "_law_pick" (defArgs s_l_pick) (defBody s_l_pick) (defScope s_l_pick) .none kV_l_pick dc_l_pick pm_l_pick an_l_pick cd_l_pick ct_l_pick), l_drawn := f_l_drawn, l_drawn_fd := (PySem.W.fnOf "_law_drawn" "_law_drawn" (defArgs s_l_drawn) (defBody s_l_drawn) (defScope s_l_drawn) .none kV_l_drawn dc_l_drawn pm_l_drawn an_l_drawn cd_l_drawn ct_l_drawn), l_beside := f_l_beside, l_beside_fd := (PySem.W.fnOf "_law_beside" "_law_beside" (defArgs s_l_beside) (defBody s_l_beside) (defScope s_l_beside) .none kV_l_beside dc_l_beside pm_l_beside an_l_beside cd_l_beside ct_l_beside), l_yards := f_l_yards, l_yards_fd := (PySem.W.fnOf "_law_yards" "_law_yards" (defArgs s_l_yards) (defBody s_l_yards) (defScope s_l_yards) .none kV_l_yards dc_l_yards pm_l_yards an_l_yards cd_l_yards ct_l_yards), l_gates := f_l_gates, l_gates_fd := (PySem.W.fnOf "_law_gates" "_law_gates" (defArgs s_l_gates) (defBody s_l_gates) (defScope s_l_gates) .none kV_l_gates dc_l_gates pm_l_gates an_l_gates cd_l_gates ct_l_gates), l_numbers := f_l_numbers, l_numbers_fd := (PySem.W.fnOf "_law_numbers" "_law_numbers" (defArgs s_l_numbers) (defBody s_l_numbers) (defScope s_l_numbers) .none kV_l_numbers dc_l_numbers pm_l_numbers an_l_numbers cd_l_numbers ct_l_numbers), l_led_right := f_l_led_right, l_led_right_fd := (PySem.W.fnOf "_law_led_right" "_law_led_right" (defArgs s_l_led_right) (defBody s_l_led_right) (defScope s_l_led_right) .none kV_l_led_right dc_l_led_right pm_l_led_right an_l_led_right cd_l_led_right ct_l_led_right), l_right := f_l_right, l_right_fd := (PySem.W.fnOf "_law_right" "_law_right" (defArgs s_l_right) (defBody s_l_right) (defScope s_l_right) .none kV_l_right dc_l_right pm_l_right an_l_right cd_l_right ct_l_right), law := fa, law_fd := (PySem.W.fnOf "law" "law" (defArgs s_law) (defBody s_law) (defScope s_law) .none kV_law dc_law pm_law an_law cd_law ct_law), Country := C_Country } := { F_is_count := F_is_count, b_is_count := b_is_count, m_is_count := PySem.W.mg_of X G a_is_count, F_is_row := F_is_row, b_is_row := b_is_row, m_is_row := PySem.W.mg_of X G a_is_row, F_Country_init := F_Country_init, b_Country_init := b_Country_init, F_Country_lanes := F_Country_lanes, b_Country_lanes := b_Country_lanes, pr_Country_lanes := ⟨a_Country_lanes, g_Country_lanes, t_Country_lanes, _, r_Country_lanes⟩, F_Country_yards := F_Country_yards, b_Country_yards := b_Country_yards, pr_Country_yards := ⟨a_Country_yards, g_Country_yards, t_Country_yards, _, r_Country_yards⟩, F_Country_gates := F_Country_gates, b_Country_gates := b_Country_gates, pr_Country_gates := ⟨a_Country_gates, g_Country_gates, t_Country_gates, _, r_Country_gates⟩, F_Country_neighbours := F_Country_neighbours, b_Country_neighbours := b_Country_neighbours, me_Country_neighbours := ⟨a_Country_neighbours, i_Country_neighbours, k_Country_neighbours⟩, F_Country_ahead := F_Country_ahead, b_Country_ahead := b_Country_ahead, me_Country_ahead := ⟨a_Country_ahead, i_Country_ahead, k_Country_ahead⟩, F_Country_eq := F_Country_eq, b_Country_eq := b_Country_eq, me_Country_eq := ⟨a_Country_eq, i_Country_eq, k_Country_eq⟩, F_is_place := F_is_place, b_is_place := b_is_place, m_is_place := PySem.W.mg_of X G a_is_place, F_is_yard := F_is_yard, b_is_yard := b_is_yard, m_is_yard := PySem.W.mg_of X G a_is_yard, F_is_neighbour := F_is_neighbour, b_is_neighbour := b_is_neighbour, m_is_neighbour := PySem.W.mg_of X G a_is_neighbour, F_are_lanes := F_are_lanes, b_are_lanes := b_are_lanes, m_are_lanes := PySem.W.mg_of X G a_are_lanes, F_is_pair_up_to := F_is_pair_up_to, b_is_pair_up_to := b_is_pair_up_to, m_is_pair_up_to := PySem.W.mg_of X G a_is_pair_up_to, F_neighbours_by_place := F_neighbours_by_place, b_neighbours_by_place := b_neighbours_by_place, m_neighbours_by_place := PySem.W.mg_of X G a_neighbours_by_place, F_yards_among := F_yards_among, b_yards_among := b_yards_among, m_yards_among := PySem.W.mg_of X G a_yards_among, F_places_ahead := F_places_ahead, b_places_ahead := b_places_ahead, m_places_ahead := PySem.W.mg_of X G a_places_ahead, F_check_country := F_check_country, b_check_country := b_check_country, m_check_country := PySem.W.mg_of X G a_check_country, F_check_place := F_check_place, b_check_place := b_check_place, m_check_place := PySem.W.mg_of X G a_check_place, F_check_yard := F_check_yard, b_check_yard := b_check_yard, m_check_yard := PySem.W.mg_of X G a_check_yard, F_check_country_and_yard := F_check_country_and_yard, b_check_country_and_yard := b_check_country_and_yard, m_check_country_and_yard := PySem.W.mg_of X G a_check_country_and_yard, F_check_target := F_check_target, b_check_target := b_check_target, m_check_target := PySem.W.mg_of X G a_check_target, F_way := F_way, b_way := b_way, m_way := PySem.W.mg_of X G a_way, F_distance := F_distance, b_distance := b_distance, m_distance := PySem.W.mg_of X G a_distance, F_next_place := F_next_place, b_next_place := b_next_place, m_next_place := PySem.W.mg_of X G a_next_place, F_behind := F_behind, b_behind := b_behind, m_behind := PySem.W.mg_of X G a_behind, F_renamed := F_renamed, b_renamed := b_renamed, m_renamed := PySem.W.mg_of X G a_renamed, F_are_new_numbers := F_are_new_numbers, b_are_new_numbers := b_are_new_numbers, m_are_new_numbers := PySem.W.mg_of X G a_are_new_numbers, F_places_along := F_places_along, b_places_along := b_places_along, m_places_along := PySem.W.mg_of X G a_places_along, F_yards_behind := F_yards_behind, b_yards_behind := b_yards_behind, m_yards_behind := PySem.W.mg_of X G a_yards_behind, F_lanes_along := F_lanes_along, b_lanes_along := b_lanes_along, m_lanes_along := PySem.W.mg_of X G a_lanes_along, F_l_pot := F_l_pot, b_l_pot := b_l_pot, m_l_pot := PySem.W.mg_of X G a_l_pot, F_l_draw := F_l_draw, b_l_draw := b_l_draw, m_l_draw := PySem.W.mg_of X G a_l_draw, F_l_pick := F_l_pick, b_l_pick := b_l_pick, m_l_pick := PySem.W.mg_of X G a_l_pick, F_l_drawn := F_l_drawn, b_l_drawn := b_l_drawn, m_l_drawn := PySem.W.mg_of X G a_l_drawn, F_l_beside := F_l_beside, b_l_beside := b_l_beside, m_l_beside := PySem.W.mg_of X G a_l_beside, F_l_yards := F_l_yards, b_l_yards := b_l_yards, m_l_yards := PySem.W.mg_of X G a_l_yards, F_l_gates := F_l_gates, b_l_gates := b_l_gates, m_l_gates := PySem.W.mg_of X G a_l_gates, F_l_numbers := F_l_numbers, b_l_numbers := b_l_numbers, m_l_numbers := PySem.W.mg_of X G a_l_numbers, F_l_led_right := F_l_led_right, b_l_led_right := b_l_led_right, m_l_led_right := PySem.W.mg_of X G a_l_led_right, F_l_right := F_l_right, b_l_right := b_l_right, m_l_right := PySem.W.mg_of X G a_l_right, F_law := F_law, b_law := b_law, m_law := PySem.W.mg_of X G a_law, ic_Country := ⟨cl_Country, ha_Country, hn, htk, hm_Country, by unfold PySem.W.kitOne; rw [if_pos (by simp)]⟩, cl_Country := cl_Country, mk_Country := ⟨mk_Country, a_Country_init, i_Country_init, kc_Country⟩, m_Country := PySem.W.mg_of X G aC_Country, ne_Country := ne_Country, na_Country_lanes := na_Country_lanes, na_Country_around := na_Country_around, na_Country_ahead := na_Country_ahead, na_Country_yards := na_Country_yards, na_Country_gates := na_Country_gates, g_MOST_LANES_AT_A_PLACE := ⟨_, PySem.W.mg_of X G z_MOST_LANES_AT_A_PLACE⟩, g_MOST_YARDS := ⟨_, PySem.W.mg_of X G z_MOST_YARDS⟩, n_abs := PySem.W.mg_none_of X G z_abs, n_all := PySem.W.mg_none_of X G z_all, n_bool := PySem.W.mg_none_of X G z_bool, n_divmod := PySem.W.mg_none_of X G z_divmod, n_int := PySem.W.mg_none_of X G z_int, n_isinstance := PySem.W.mg_none_of X G z_isinstance, n_len := PySem.W.mg_none_of X G z_len, n_list := PySem.W.mg_none_of X G z_list, n_max := PySem.W.mg_none_of X G z_max, n_min := PySem.W.mg_none_of X G z_min, n_range := PySem.W.mg_none_of X G z_range, n_repr := PySem.W.mg_none_of X G z_repr, n_sorted := PySem.W.mg_none_of X G z_sorted, n_tuple := PySem.W.mg_none_of X G z_tuple }
  exact ⟨_, fun s v => .of_eq rfl, fun base => ok_law T⟩
end K15
set_option Elab.async false
open PySem PySem.W PyProof.Rows
set_option maxRecDepth 100000 in
set_option maxHeartbeats 0 in
theorem PySem.Challenge.cw_lanekeepers_k15_whole_renamed_countries_holds : PySem.Challenge.rw_lanekeepers_k15_whole_renamed_countries.Holds := by
  w_on; o_law; k_head; (case hw => w_witness2)
  k_fill
  refine G8.walk_G (l := PySem.Challenge.rw_lanekeepers_k15_whole_renamed_countries) (n := 63) (k := 10) (x := "_law_script") (sp := Pr.spLaw) rfl (by decide) rfl ⟨rfl, by decide, by decide⟩ (fun w h Y => PySem.W.kIn_of Y) ?F (fun _ _ a ns hS => ⟨a, ns, rfl, hS, fun _ => rfl⟩)
  case F =>
    intro w mg fa h KX G hmg
    refine' K15.all_mk KX G hmg ?aC_Country ?a_is_count ?l_is_count ?c_is_count ?k_is_count ?a_is_row ?l_is_row ?c_is_row ?k_is_row ?a_Country_init ?i_Country_init ?l_Country_init ?c_Country_init ?k_Country_init ?a_Country_lanes ?g_Country_lanes ?t_Country_lanes ?r_Country_lanes ?l_Country_lanes ?c_Country_lanes ?k_Country_lanes ?a_Country_yards ?g_Country_yards ?t_Country_yards ?r_Country_yards ?l_Country_yards ?c_Country_yards ?k_Country_yards ?a_Country_gates ?g_Country_gates ?t_Country_gates ?r_Country_gates ?l_Country_gates ?c_Country_gates ?k_Country_gates ?a_Country_neighbours ?i_Country_neighbours ?l_Country_neighbours ?c_Country_neighbours ?k_Country_neighbours ?a_Country_ahead ?i_Country_ahead ?l_Country_ahead ?c_Country_ahead ?k_Country_ahead ?a_Country_eq ?i_Country_eq ?l_Country_eq ?c_Country_eq ?k_Country_eq ?a_is_place ?l_is_place ?c_is_place ?k_is_place ?a_is_yard ?l_is_yard ?c_is_yard ?k_is_yard ?a_is_neighbour ?l_is_neighbour ?c_is_neighbour ?k_is_neighbour ?a_are_lanes ?l_are_lanes ?c_are_lanes ?k_are_lanes ?a_is_pair_up_to ?l_is_pair_up_to ?c_is_pair_up_to ?k_is_pair_up_to ?a_neighbours_by_place ?l_neighbours_by_place ?c_neighbours_by_place ?k_neighbours_by_place ?a_yards_among ?l_yards_among ?c_yards_among ?k_yards_among ?a_places_ahead ?l_places_ahead ?c_places_ahead ?k_places_ahead ?a_check_country ?l_check_country ?c_check_country ?k_check_country ?a_check_place ?l_check_place ?c_check_place ?k_check_place ?a_check_yard ?l_check_yard ?c_check_yard ?k_check_yard ?a_check_country_and_yard ?l_check_country_and_yard ?c_check_country_and_yard ?k_check_country_and_yard ?a_check_target ?l_check_target ?c_check_target ?k_check_target ?a_way ?l_way ?c_way ?k_way ?a_distance ?l_distance ?c_distance ?k_distance ?a_next_place ?l_next_place ?c_next_place ?k_next_place ?a_behind ?l_behind ?c_behind ?k_behind ?a_renamed ?l_renamed ?c_renamed ?k_renamed ?a_are_new_numbers ?l_are_new_numbers ?c_are_new_numbers ?k_are_new_numbers ?a_places_along ?l_places_along ?c_places_along ?k_places_along ?a_yards_behind ?l_yards_behind ?c_yards_behind ?k_yards_behind ?a_lanes_along ?l_lanes_along ?c_lanes_along ?k_lanes_along ?a_l_pot ?l_l_pot ?c_l_pot ?k_l_pot ?a_l_draw ?l_l_draw ?c_l_draw ?k_l_draw ?a_l_pick ?l_l_pick ?c_l_pick ?k_l_pick ?a_l_drawn ?l_l_drawn ?c_l_drawn ?k_l_drawn ?a_l_beside ?l_l_beside ?c_l_beside ?k_l_beside ?a_l_yards ?l_l_yards ?c_l_yards ?k_l_yards ?a_l_gates ?l_l_gates ?c_l_gates ?k_l_gates ?a_l_numbers ?l_l_numbers ?c_l_numbers ?k_l_numbers ?a_l_led_right ?l_l_led_right ?c_l_led_right ?k_l_led_right ?a_l_right ?l_l_right ?c_l_right ?k_l_right ?a_law ?l_law ?c_law ?k_law ?pg_Country ?hd_Country ?po_Country ?sa_Country ?mk_Country ?kc_Country ?ha_Country ?hm_Country ?ne_Country ?na_Country_lanes ?na_Country_around ?na_Country_ahead ?na_Country_yards ?na_Country_gates ?hn ?htk ?z_MOST_LANES_AT_A_PLACE ?z_MOST_YARDS ?z_abs ?z_all ?z_bool ?z_divmod ?z_int ?z_isinstance ?z_len ?z_list ?z_max ?z_min ?z_range ?z_repr ?z_sorted ?z_tuple
    (case aC_Country => k_is)
    (case a_is_count => k_is)
    (case l_is_count => k_is)
    (case c_is_count => k_is)
    (case k_is_count => k_is)
    (case a_is_row => k_is)
    (case l_is_row => k_is)
    (case c_is_row => k_is)
    (case k_is_row => k_is)
    (case a_Country_init => k_is)
    (case i_Country_init => k_is)
    (case l_Country_init => k_is)
    (case c_Country_init => k_is)
    (case k_Country_init => k_is)
    (case a_Country_lanes => k_is)
    (case g_Country_lanes => k_is)
    (case t_Country_lanes => k_is)
    (case r_Country_lanes => k_is)
    (case l_Country_lanes => k_is)
    (case c_Country_lanes => k_is)
    (case k_Country_lanes => k_is)
    (case a_Country_yards => k_is)
    (case g_Country_yards => k_is)
    (case t_Country_yards => k_is)
    (case r_Country_yards => k_is)
    (case l_Country_yards => k_is)
    (case c_Country_yards => k_is)
    (case k_Country_yards => k_is)
    (case a_Country_gates => k_is)
    (case g_Country_gates => k_is)
    (case t_Country_gates => k_is)
    (case r_Country_gates => k_is)
    (case l_Country_gates => k_is)
    (case c_Country_gates => k_is)
    (case k_Country_gates => k_is)
    (case a_Country_neighbours => k_is)
    (case i_Country_neighbours => k_is)
    (case l_Country_neighbours => k_is)
    (case c_Country_neighbours => k_is)
    (case k_Country_neighbours => k_is)
    (case a_Country_ahead => k_is)
    (case i_Country_ahead => k_is)
    (case l_Country_ahead => k_is)
    (case c_Country_ahead => k_is)
    (case k_Country_ahead => k_is)
    (case a_Country_eq => k_is)
    (case i_Country_eq => k_is)
    (case l_Country_eq => k_is)
    (case c_Country_eq => k_is)
    (case k_Country_eq => k_is)
    (case a_is_place => k_is)
    (case l_is_place => k_is)
    (case c_is_place => k_is)
    (case k_is_place => k_is)
    (case a_is_yard => k_is)
    (case l_is_yard => k_is)
    (case c_is_yard => k_is)
    (case k_is_yard => k_is)
    (case a_is_neighbour => k_is)
    (case l_is_neighbour => k_is)
    (case c_is_neighbour => k_is)
    (case k_is_neighbour => k_is)
    (case a_are_lanes => k_is)
    (case l_are_lanes => k_is)
    (case c_are_lanes => k_is)
    (case k_are_lanes => k_is)
    (case a_is_pair_up_to => k_is)
    (case l_is_pair_up_to => k_is)
    (case c_is_pair_up_to => k_is)
    (case k_is_pair_up_to => k_is)
    (case a_neighbours_by_place => k_is)
    (case l_neighbours_by_place => k_is)
    (case c_neighbours_by_place => k_is)
    (case k_neighbours_by_place => k_is)
    (case a_yards_among => k_is)
    (case l_yards_among => k_is)
    (case c_yards_among => k_is)
    (case k_yards_among => k_is)
    (case a_places_ahead => k_is)
    (case l_places_ahead => k_is)
    (case c_places_ahead => k_is)
    (case k_places_ahead => k_is)
    (case a_check_country => k_is)
    (case l_check_country => k_is)
    (case c_check_country => k_is)
    (case k_check_country => k_is)
    (case a_check_place => k_is)
    (case l_check_place => k_is)
    (case c_check_place => k_is)
    (case k_check_place => k_is)
    (case a_check_yard => k_is)
    (case l_check_yard => k_is)
    (case c_check_yard => k_is)
    (case k_check_yard => k_is)
    (case a_check_country_and_yard => k_is)
    (case l_check_country_and_yard => k_is)
    (case c_check_country_and_yard => k_is)
    (case k_check_country_and_yard => k_is)
    (case a_check_target => k_is)
    (case l_check_target => k_is)
    (case c_check_target => k_is)
    (case k_check_target => k_is)
    (case a_way => k_is)
    (case l_way => k_is)
    (case c_way => k_is)
    (case k_way => k_is)
    (case a_distance => k_is)
    (case l_distance => k_is)
    (case c_distance => k_is)
    (case k_distance => k_is)
    (case a_next_place => k_is)
    (case l_next_place => k_is)
    (case c_next_place => k_is)
    (case k_next_place => k_is)
    (case a_behind => k_is)
    (case l_behind => k_is)
    (case c_behind => k_is)
    (case k_behind => k_is)
    (case a_renamed => k_is)
    (case l_renamed => k_is)
    (case c_renamed => k_is)
    (case k_renamed => k_is)
    (case a_are_new_numbers => k_is)
    (case l_are_new_numbers => k_is)
    (case c_are_new_numbers => k_is)
    (case k_are_new_numbers => k_is)
    (case a_places_along => k_is)
    (case l_places_along => k_is)
    (case c_places_along => k_is)
    (case k_places_along => k_is)
    (case a_yards_behind => k_is)
    (case l_yards_behind => k_is)
    (case c_yards_behind => k_is)
    (case k_yards_behind => k_is)
    (case a_lanes_along => k_is)
    (case l_lanes_along => k_is)
    (case c_lanes_along => k_is)
    (case k_lanes_along => k_is)
    (case a_l_pot => k_is)
    (case l_l_pot => k_is)
    (case c_l_pot => k_is)
    (case k_l_pot => k_is)
    (case a_l_draw => k_is)
    (case l_l_draw => k_is)
    (case c_l_draw => k_is)
    (case k_l_draw => k_is)
    (case a_l_pick => k_is)
    (case l_l_pick => k_is)
    (case c_l_pick => k_is)
    (case k_l_pick => k_is)
    (case a_l_drawn => k_is)
    (case l_l_drawn => k_is)
    (case c_l_drawn => k_is)
    (case k_l_drawn => k_is)
    (case a_l_beside => k_is)
    (case l_l_beside => k_is)
    (case c_l_beside => k_is)
    (case k_l_beside => k_is)
    (case a_l_yards => k_is)
    (case l_l_yards => k_is)
    (case c_l_yards => k_is)
    (case k_l_yards => k_is)
    (case a_l_gates => k_is)
    (case l_l_gates => k_is)
    (case c_l_gates => k_is)
    (case k_l_gates => k_is)
    (case a_l_numbers => k_is)
    (case l_l_numbers => k_is)
    (case c_l_numbers => k_is)
    (case k_l_numbers => k_is)
    (case a_l_led_right => k_is)
    (case l_l_led_right => k_is)
    (case c_l_led_right => k_is)
    (case k_l_led_right => k_is)
    (case a_l_right => k_is)
    (case l_l_right => k_is)
    (case c_l_right => k_is)
    (case k_l_right => k_is)
    (case a_law => k_is)
    (case l_law => k_is)
    (case c_law => k_is)
    (case k_law => k_is)
    (case pg_Country => k_is)
    (case hd_Country => k_is)
    (case po_Country => k_is)
    (case sa_Country => k_is)
    (case mk_Country => k_is)
    (case kc_Country => k_is)
    (case ha_Country => k_is)
    (case hm_Country => k_is)
    (case ne_Country => k_is)
    (case na_Country_lanes => k_is)
    (case na_Country_around => k_is)
    (case na_Country_ahead => k_is)
    (case na_Country_yards => k_is)
    (case na_Country_gates => k_is)
    (case hn => k_is)
    (case htk => k_is)
    (case z_MOST_LANES_AT_A_PLACE => k_is)
    (case z_MOST_YARDS => k_is)
    (case z_abs => k_is)
    (case z_all => k_is)
    (case z_bool => k_is)
    (case z_divmod => k_is)
    (case z_int => k_is)
    (case z_isinstance => k_is)
    (case z_len => k_is)
    (case z_list => k_is)
    (case z_max => k_is)
    (case z_min => k_is)
    (case z_range => k_is)
    (case z_repr => k_is)
    (case z_sorted => k_is)
    (case z_tuple => k_is)
