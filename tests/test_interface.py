"""The names and the parameters of the interface, in the files under which the document lists them."""

import ast
import importlib
import os
import unittest

TOP = os.path.dirname(os.path.dirname(os.path.abspath(__file__)))

FUNCTIONS = """
ways: way(country, start, end) distance(country, place, goal) next_place(country, place, goal)
ways: between(country, yard, goal) behind(country, yard, target) all_ways(country) renamed(country, places)
books: is_book(country, yard, value) stands(country, yard, book, load)
books: either(country, yard, book, other) both(country, yard, book, other)
loads: is_load(country, yard, value) with_cart(country, yard, load, origin, target)
loads: is_at_most(country, yard, load, other) lets(web, yard, load) loads_towards(web, yard, target)
loads: heaviest(web, yard, target) greatest_loads(web, yard) within(country, yard, book, other)
stands: is_cart(country, value) is_stand(web, value) load_at(web, stand, yard) counted(web, stand) lanes_left(web, stand)
steps: is_step(country, value) can_step(web, stand, step) stepped(web, stand, step) after(web, stand, steps)
steps: refused(web, stand) is_stuck(web, stand) why_refused(web, stand, cart) is_script(web, value, many)
sides: is_plugged(web, yard, target) witness(web, yard, target) is_witness(web, yard, target, value)
sides: plugged_sides(web) backs(web)
posts: posts(web) is_post(web, yard) can_be_stuck(web) facing(web) do_face(country, one, other) nearest(web)
plans: stuck_stand(web) stuck_script(web) shows_stuck(web, value)
turns: turned(web) turned_load(country, yard, load) turned_stand(web, stand) turned_steps(country, steps)
comings: emptied(web, stand) can_all_come(web) never_comes(web) coming_script(web, stand)
comings: led_over(web, stand, other) is_lead(web, stand, other, value)
seen: is_known(country, yard, value) is_let(country, yard, known, load) noted(country, yard, known, load, word)
seen: fits(country, yard, known, book)
knowns: can_be_plugged(country, knowns, yard, target) can_be_free(country, knowns, yard, target)
knowns: plugging(country, knowns, yard, target) freeing(country, knowns, yard, target) verdict(country, knowns)
knowns: fillings(country, knowns) is_filling(country, knowns, value) filled_posts(country, filling)
bounds: is_bounded(web) places_of(web, yard) bound_of(web, yard, target)
few: sums(web) fewest(web) fewest_script(web) fewest_stand(web) is_few_script(web, many, value)
stairs: is_line(web) stairs(web) can_stick(web, east, west) line_script(web, east, west)
rounds: round_fewest(places, forward, backward) round_stand(places, forward, backward)
rounds: is_round_stuck(places, forward, backward, value)
doors: kind(web, gate) clear_doors(web, gates) joined(web, gate, other, door) are_never_stuck(near, far)
doors: parting(near, far)
mends: mended(web, mends) price(web, prices, post) cheapest(web, prices) cheapest_mends(web, prices)
texts: country_text(country) book_text(country, yard, book) web_text(web) stand_text(web, stand) steps_text(country, steps)
readers: country_of(text) book_of(country, yard, text) web_of(text) stand_of(web, text) steps_of(country, text)
claims: words() is_claim(value) is_true(claim) contrary(claim) paper_of(claim) is_paper_of(claim, value)
commands: is_name(value) is_command(value) is_deed(value)
desk: tried(desk, action)
"""
METHODS = """
countries: Country: __init__(self, lanes) lanes(self) yards(self) gates(self) neighbours(self, place) __eq__(self, other)
webs: Web: __init__(self, country, books) country(self) books(self) book(self, yard) __eq__(self, other)
desk: Desk: __init__(self) names(self) labels(self) __len__(self) __getitem__(self, at) __contains__(self, x)
desk: Desk: claim_of(self, label) do(self, command) __call__(self, command) do_all(self, *commands) attempt(self, *commands)
desk: Desk: attach(self, label, paper) fits(self, label) lines(self) copy(self) again(cls, lines)
desk: Trial: __init__(self, desk) __enter__(self) __exit__(self, kind, value, trace)
"""


def told_calls(text):
    return [part.strip() + ")" for part in text.split(")") if part.strip()]


def written(function):
    """The function's name and parameters as the document writes them; just plain ones, and one with a star."""
    plain = function.args
    assert not (plain.posonlyargs or plain.kwonlyargs or plain.kwarg or plain.defaults), function.name
    names = [one.arg for one in plain.args] + (["*" + plain.vararg.arg] if plain.vararg else [])
    return f"{function.name}({', '.join(names)})"


def body_of(name):
    with open(os.path.join(TOP, "lanekeepers", name + ".py"), encoding="ascii") as held:
        return ast.parse(held.read()).body


def functions_in(body):
    return [written(node) for node in body if isinstance(node, ast.FunctionDef)]


class InterfaceTest(unittest.TestCase):
    def test_functions(self):
        for line in FUNCTIONS.strip().splitlines():
            name, text = line.split(": ")
            module = importlib.import_module("lanekeepers." + name)
            for told in told_calls(text):
                with self.subTest(file=name, told=told):
                    self.assertIn(told, functions_in(body_of(name)))
                    self.assertEqual(getattr(module, told.split("(")[0]).__module__, "lanekeepers." + name)

    def test_classes(self):
        for line in METHODS.strip().splitlines():
            name, kind, text = line.split(": ")
            classes = [node for node in body_of(name) if isinstance(node, ast.ClassDef) and node.name == kind]
            self.assertEqual(len(classes), 1)
            for told in told_calls(text):
                with self.subTest(kind=kind, told=told):
                    self.assertIn(told, functions_in(classes[0].body))


if __name__ == "__main__":
    unittest.main()
