"""Dice: their hands, how they roll, ways between them, where they can come."""

import itertools

from endlessplane.dice import (
    all_there, are_even, can_come, hand, is_die, is_text, order, rolled, sides, way,
)
from tests.helpers import GREAT, NO_DICE, NO_TEXTS, Everything, PlaneCase, Touchy, every_die, every_word, some_words

LONG = 10 ** 30

# For each step the sides from which the faces of top, north and east come, of a die that rolls over its edge.
COMES_FROM = {
    "E": {"east": "top", "top": "west", "west": "bottom", "bottom": "east", "north": "north", "south": "south"},
    "W": {"west": "top", "top": "east", "east": "bottom", "bottom": "west", "north": "north", "south": "south"},
    "N": {"north": "top", "top": "south", "south": "bottom", "bottom": "north", "east": "east", "west": "west"},
    "S": {"south": "top", "top": "north", "north": "bottom", "bottom": "south", "east": "east", "west": "west"},
}


def rolled_by_hand(die, text):
    """The die behind a text, all six sides moved step by step."""
    told = {"top": die[0], "north": die[1], "east": die[2], "bottom": 7 - die[0], "south": 7 - die[1],
            "west": 7 - die[2]}
    for letter in text:
        told = {side: told[COMES_FROM[letter][side]] for side in told}
    return (told["top"], told["north"], told["east"])


def reached(die, most):
    """The dict from the dice that a die becomes to the texts of up to so many steps by which it does, by hand."""
    found = {}
    for many in range(most + 1):
        for text in itertools.product("ENSW", repeat=many):
            found.setdefault(rolled_by_hand(die, text), []).append("".join(text))
    return found


class DieTest(PlaneCase):
    def test_is_die(self):
        dice = every_die()
        self.same(len(dice), 48)
        for told in itertools.product(range(-1, 9), repeat=3):
            self.same(is_die(told), told in dice)
        for value in NO_DICE + [Everything(), Touchy(), (1, 2, Everything()), (Touchy(), 2, 3), (1.0, 2, 3)]:
            self.same(is_die(value), False)
        self.same(is_die(value=(1, 2, 3)), True)

    def test_is_text(self):
        for text in ["", "E", "ENWS", "S" * 60]:
            self.same(is_text(text), True)
        for value in NO_TEXTS + [Everything(), Touchy()]:
            self.same(is_text(value), False)
        self.same(is_text(value="NN"), True)

    def test_sides(self):
        for die in every_die():
            told = sides(die)
            self.assertEqual(list(told), ["top", "bottom", "north", "south", "east", "west"])
            self.same((told["top"], told["north"], told["east"]), die)
            self.same(sorted(told.values()), [1, 2, 3, 4, 5, 6])
            for one, other in (("top", "bottom"), ("north", "south"), ("east", "west")):
                self.same(told[one] + told[other], 7)
            told["top"] = 0
            self.same(sides(die=die)["top"], die[0])

    def test_wrong_arguments(self):
        self.refuses(sides, {"die": (1, 2, 3)})
        self.refuses(hand, {"die": (1, 2, 3)})
        kinds = {"other": "die", "text": "text", "start": "cell", "goal": "cell"}
        self.refuses(rolled, {"die": (1, 2, 3), "text": "E", "times": 1}, kinds)
        self.refuses(rolled, {"die": (1, 2, 3), "text": ""}, kinds)
        self.refuses(order, {"text": "E"}, kinds)
        self.refuses(way, {"die": (1, 2, 3), "other": (1, 3, 2)}, kinds)
        self.refuses(are_even, {"die": (1, 2, 3), "other": (1, 3, 2)}, kinds)
        self.refuses(can_come, {"die": (1, 2, 3), "start": (0, 0), "goal": (1, 1), "other": (1, 3, 2)}, kinds)
        self.refuses(all_there, {"die": (1, 2, 3), "start": (0, 0), "goal": (1, 1)}, kinds)


class RollingTest(PlaneCase):
    def test_by_sides(self):
        for die in every_die():
            for word in [""] + [word for many in (1, 2, 3) for word in every_word(many)]:
                self.same(rolled(die, word), rolled_by_hand(die, word))
        for word in some_words(321, 40, 60) + ["ENWS" * 15]:
            self.same(rolled((3, 6, 2), word), rolled_by_hand((3, 6, 2), word))
        self.same(rolled((1, 2, 3), "E"), (4, 2, 1))
        self.same(rolled(times=1, text="E", die=(1, 2, 3)), (4, 2, 1))

    def test_so_many_times(self):
        for word in some_words(322, 30, 8) + [""]:
            for times in (0, 1, 2, 3, 5, 11, 12, 100):
                self.same(rolled((1, 2, 3), word, times), rolled_by_hand((1, 2, 3), word * times))
            for times in (LONG, GREAT, GREAT + 7):
                self.same(rolled((2, 4, 1), word, times), rolled_by_hand((2, 4, 1), word * (times % 12)))

    def test_orders(self):
        found = set()
        for word in [""] + [word for many in (1, 2, 3) for word in every_word(many)] + some_words(323, 40, 60):
            for die in every_die()[::7]:
                times = 1
                while rolled_by_hand(die, word * times) != die:
                    times += 1
                self.same(order(word), times)
            found.add(order(text=word))
        self.assertEqual(found, {1, 2, 3, 4})
        self.same((order("E"), order("EN"), order("EE"), order("EW"), order("")), (4, 3, 2, 1, 1))


class WaysTest(PlaneCase):
    def test_hands(self):
        for first in ((1, 2, 3), (1, 3, 2)):
            told = reached(first, 4)
            self.same(len(told), 24)
            for die in told:
                self.same(hand(die), first)
        self.same(hand(die=(6, 5, 3)), (1, 2, 3))

    def test_ways(self):
        longest = 0
        for die in every_die()[::5]:
            told = reached(die, 4)
            for other in every_die():
                texts = told.get(other)
                wanted = None if texts is None else min(texts, key=lambda text: (len(text), text))
                self.same(way(die, other), wanted)
                self.same(are_even(die, other), wanted is not None and len(wanted) % 2 == 0)
                longest = max(longest, len(wanted or ""))
                if texts is not None:
                    self.same({len(text) % 2 for text in texts}, {len(wanted) % 2})
        self.same(longest, 4)
        self.same(way(other=(1, 2, 3), die=(1, 2, 3)), "")
        self.same(are_even(other=(1, 2, 3), die=(1, 2, 3)), True)
        self.same((way((1, 2, 3), (1, 3, 2)), are_even((1, 2, 3), (1, 3, 2))), (None, False))

    def test_coming(self):
        for die in ((1, 2, 3), (1, 3, 2), (4, 6, 2)):
            told = reached(die, 5)
            for goal in itertools.product(range(-2, 3), repeat=2):
                odd = sum(goal) % 2
                wanted = sorted(other for other in told if any(len(text) % 2 == odd for text in told[other]))
                start = (7, -GREAT)
                there = all_there(die, start, (start[0] + goal[0], start[1] + goal[1]))
                self.same(there, wanted)
                self.same(len(there), 12)
                for other in every_die():
                    self.same(can_come(die, (0, 0), goal, other), other in wanted)
        self.same(can_come(other=(1, 2, 3), goal=(0, 0), start=(0, 0), die=(1, 2, 3)), True)
        self.same(can_come((1, 2, 3), (0, 0), (1, 0), (1, 2, 3)), False)
        self.same(len(all_there(goal=(GREAT, -GREAT), start=(-GREAT, GREAT), die=(1, 2, 3))), 12)

    def test_coming_step_by_step(self):
        # All dice on each cell near the start, for all texts of up to seven steps.
        there, found = {((0, 0), (1, 2, 3))}, set()
        for _ in range(7):
            found |= there
            there = {((x + dx, y + dy), rolled_by_hand(die, letter)) for (x, y), die in there
                     for letter, dx, dy in (("E", 1, 0), ("N", 0, 1), ("W", -1, 0), ("S", 0, -1))}
        for cell in itertools.product(range(-1, 2), repeat=2):
            self.same(all_there((1, 2, 3), (0, 0), cell), sorted(die for other, die in found if other == cell))
