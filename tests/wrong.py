"""Values that are no country, no yard, no load and so on: of LINE and its yard 2, where they hang on a country."""

from helpers import LINE, ODD, ODD_LISTS
from lanekeepers.webs import Web

PLAIN_ROW = Web(LINE, [[(2, [])]] * 3)

NO_COUNTRY = ODD + ODD_LISTS + [[(0, 1), (1, 2)], [], (), PLAIN_ROW]
NO_WEB = ODD + ODD_LISTS + [LINE, [LINE, PLAIN_ROW.books]]
NO_YARD = ODD + ODD_LISTS + [0, 4, 5]
# The gates ahead of the yards 1 and 3, the yard itself, a yard that is no neighbour.
NO_YARD_AHEAD_OF_1 = ODD + ODD_LISTS + [0, 1, 3, 4, 5]

BAD_LOADS = [[(1, 3, 0)], [(1, 3, True)], [(1, 3, -1)], [(1, 3, "1")], [(1, 3, None)], [(3, 1, 1), (1, 3, 1)],
             [(1, 3, 1), (1, 3, 1)], [(1, 3, 1), (1, 3, 2)], [(1, 3, 2), (1, 3, 1)], [[1, 3, 1]], ([1, 3, 1],), [(1, 1, 1)],
             [(1, 2, 1)], [(2, 1, 1)], [(0, 3, 1)], [(1, 4, 1)], [(True, 3, 1)], [(3, True, 1)], [(None, 3, 1)],
             [(1, None, 1)], [(1, 3)], [(1, 3, 1, 1)], [()], [([1], 3, 1)], [(1, 10 ** 29, 1)], [(1, 3, 1), None],
             {(1, 3, 1): 1}, (1, 3, 1), [(1, 3, 1), [3, 1, 1]]]
BAD_BOOKS = [[], (), [(0, [])], [(2, [(1, 3, 0)])], [[2, []]], [(2, [])] * 5, [(2, [(0, 3, 1)])], [(2, [(1, 3, True)])],
             [(2, [(1, 3, 1)] * 7)], [(2, [[None, 3, 1]])], (2, [])]
NO_CARTS = [(0, 0, 4), (4, 0, 4), (2, 0, 0), (2, 4, 4), (2, 0, 3), (2, 1, 4), (5, 0, 4), (1, 0), (1, 0, 4, 4), [1, 0, 4],
            (True, 0, 4), (1, False, 4), (1, 0, True), (None, 0, 4), (1, None, 4), (1, 0, None), ("1", 0, 4), (10 ** 29, 0, 4),
            (1, 0, 10 ** 29), (-1, 0, 4), ([1], 0, 4), (1, (0,), 4), (1, 0, {}), ()]
# Of PLAIN_ROW.
NO_STANDS = [[(1, 0, 4)] * 3, [(2, 0, 4), (2, 4, 0), (2, 0, 4)], (1, 0, 4), {(1, 0, 4): 1}, [[(1, 0, 4)]], [(1, 0, 4), None]]
NO_STEPS = [("in", 0, 0), ("in", 0, 3), ("in", 1, 4), ("in", 0), ("in", 0, 4, 4), ("in", 1, 0, 4), ["in", 0, 4], ("In", 0, 4),
            ("in ", 0, 4), (b"in", 0, 4), ("in", False, 4), ("in", 0, None), ("in", "0", 4), ("in", 0, 10 ** 29), ("in",),
            ("on", 0, 0, 4), ("on", 4, 0, 4), ("on", 2, 0, 0), ("on", 2, 0, 3), ("on", 2, 1, 4), ("on", 1, 0), ("on", 0, 4),
            ("on", 1, 0, 4, 4), ["on", 1, 0, 4], ("off", 1, 0, 4), ("on", True, 0, 4), ("on", 1, False, 4), ("on", 1, 0, None),
            ("on", (1, 0, 4)), ("on", [1], 0, 4), (None, 0, 4), (0, 0, 4), (1, 0, 4), (["in"], 0, 4), (), ("on",), "in", "on 1:0>4"]
NO_STEP_LISTS = ODD + ODD_LISTS + NO_STEPS[:-4] + [[step] for step in NO_STEPS] + [("in", 0, 4), {("in", 0, 4): 1}]
# Of yard 2 of LINE, as all that is wrong in them is a part.
ONE_CART, TWO_ON, TWO_BACK, EACH_WAY = [(1, 3, 1)], [(1, 3, 2)], [(3, 1, 2)], [(1, 3, 1), (3, 1, 1)]
NO_KNOWNS = [(0, [], []), (7, [], []), (True, [], []), (None, [], []), ("2", [], []), (10 ** 29, [], []), (-1, [], []),
             (2, []), (2, [], [], []), [2, [], []], (2, None, []), (2, [], None), (2, {}, []), (2, [], ""), (2, 1, []),
             (2, [TWO_ON] * 13, []), (2, [], [TWO_ON] * 13), (2, [TWO_ON, None], []), (2, [], [TWO_ON, [[1, 3, 2]]]),
             (2, [], [[]]), (2, [], [ONE_CART]), (2, [], [[(3, 1, 1)]]), (2, [], [TWO_ON, [(3, 1, 1)]]),
             (2, [TWO_ON], [TWO_ON]), (2, [EACH_WAY], [TWO_ON, EACH_WAY]), (3, [[(1, 3, 2), (3, 1, 1)]], [TWO_ON]),
             (3, [[(1, 3, 2), (3, 1, 1)]], [EACH_WAY]), (1, [TWO_ON], []), (2, [EACH_WAY, [(1, 3, 1), (3, 1, 2)]], []),
             (2, [[(1, 3, 3)]], [TWO_BACK]), (), (2, TWO_ON, []), (2, [], TWO_ON)] + [(2, [odd], []) for odd in BAD_LOADS]
NO_KNOWNS = NO_KNOWNS + [(2, [], [odd]) for odd in BAD_LOADS]
