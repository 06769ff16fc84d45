"""Live floors: layers, walkers, steps taken back and done again, attempts, trials, twins."""

import random

from endlessplane.carpets import plain
from endlessplane.errors import BadName, BadNumber, BadPart, NothingToUndo, TooMany
from endlessplane.floors import Floor
from endlessplane.live import Live
from endlessplane.meetings import many_meetings
from endlessplane.prints import die_at
from endlessplane.regions import Region
from endlessplane.stands import floor_stands
from endlessplane.walkforms import are_same
from endlessplane.walks import Walk
from tests.helpers import (
    CHESS, COLUMNS, GREAT, NO_CARPETS, NO_DICE, NO_PAIRS, THREE, Everything, PlaneCase, Touchy, cells_walked,
    some_carpets, some_regions, some_words,
)
from tests.test_dice import rolled_by_hand

LONG = 10 ** 30
NAMES = ["ann", "b", "zzzzzzzz", "cat", "dog", "eel", "fox"]
NO_NAMES = [None, True, 5, "", "Ann", "a1", "ninelongs", "a b", " ann", "ann ", "ann\n", "a-b", b"ann", ["ann"],
            ("ann",), {}, Everything(), Touchy(), object()]


def told(live):
    """All that a live floor tells."""
    now, names = live.now(), live.names()
    layers = [(region.slabs(), carpet.rows) for region, carpet in now.told_layers()]
    walkers = [(name, live.walk_of(name).cell, live.walk_of(name).parts, live.die_of(name)) for name in names]
    return (now.carpet_of(0).rows, layers, walkers, live.steps())


def undone(live):
    """How many steps can be done again, counted on a twin."""
    other, many = live.twin(), 0
    while True:
        try:
            other.redo()
        except NothingToUndo:
            return many
        many += 1


def begun():
    """A live floor with two layers and two walkers, of which five steps stand, and one is taken back."""
    live = Live(CHESS)
    live.lay(THREE, plain(5))
    live.put("ann", (0, 0), (1, 2, 3))
    live.put("bob", (3, -1))
    live.go("ann", "EN", 4)
    live.lay(Region([(5, None, 0, None)]), plain(7))
    live.go("bob", "N", 9)
    live.undo()
    return live


class LiveCase(PlaneCase):
    def changes_nothing(self, error, attribute, value, live, function, /, *args, **named):
        """Check that a call raises this error, and that nothing has changed."""
        ahead, left = told(live), undone(live)
        self.bears(error, attribute, value, function, *args, **named)
        self.assertEqual((told(live), undone(live)), (ahead, left))


class FloorTest(LiveCase):
    def test_layers(self):
        live = Live(carpet=CHESS)
        self.same((live.now(), live.names(), live.steps()), (Floor(CHESS), [], 0))
        floor = Floor(CHESS)
        for index, (region, carpet) in enumerate(zip(some_regions(401, 6, (None,)), some_carpets(402, 6, (1, 2, 3)))):
            self.assertIsNone(live.lay(region, carpet))
            floor = floor.laid_on(region, carpet)
            self.same(live.now(), floor)
            self.same((len(live.now()), live.steps()), (index + 1, index + 1))
        self.changes_nothing(TooMany, "limit", 6, live, live.lay, THREE, CHESS)
        for index in range(5, -1, -1):
            floor = floor.without(len(floor))
            self.assertIsNone(live.lift())
            self.same((live.now(), len(live.now())), (floor, index))
        self.same(live.steps(), 12)
        self.changes_nothing(NothingToUndo, "name", "layer", live, live.lift)
        live.lay(carpet=COLUMNS, region=THREE)
        self.same(live.now(), Floor(CHESS, [(THREE, COLUMNS)]))

    def test_wrong_arguments(self):
        self.refuses(Live, {"carpet": CHESS})
        full = Live(CHESS)
        for _ in range(6):
            full.lay(THREE, COLUMNS)
        for live in (Live(CHESS), begun(), full):
            self.refuses(live.lay, {"region": THREE, "carpet": CHESS})
            for value in NO_CARPETS:
                self.changes_nothing(BadPart, "part", "carpet", live, live.lay, THREE, value)
        self.no_iteration(Live(CHESS))


class WalkersTest(LiveCase):
    def test_put_and_take(self):
        live = Live(CHESS)
        for index, name in enumerate(NAMES[:6]):
            die = (1, 2, 3) if index % 2 else None
            self.assertIsNone(live.put(name, (index, -index), die))
            self.same((live.walk_of(name), live.where(name), live.die_of(name)), (Walk((index, -index)),
                                                                                  (index, -index), die))
            self.same(live.colour_under(name), 0)
            self.same((live.names(), live.steps()), (NAMES[:index + 1], index + 1))
        self.changes_nothing(TooMany, "limit", 6, live, live.put, "fox", (0, 0))
        self.assertIsNone(live.take("cat"))
        self.same(live.names(), ["ann", "b", "zzzzzzzz", "dog", "eel"])
        self.changes_nothing(BadName, "name", "cat", live, live.walk_of, "cat")
        live.put(name="cat", cell=(9, 9), die=None)
        self.same((live.names()[-1], live.where(name="cat"), live.die_of(name="cat")), ("cat", (9, 9), None))
        live.take(name="ann")
        live.put("fox", (GREAT, 1), (6, 5, 4))
        self.same((live.names(), live.steps()), (["b", "zzzzzzzz", "dog", "eel", "cat", "fox"], 10))
        self.same((live.walk_of(name="fox"), live.colour_under(name="fox")), (Walk((GREAT, 1)), 1))

    def test_go(self):
        live = begun()
        self.same(live.walk_of("ann"), Walk((0, 0), [("EN", 4)]))
        self.same((live.where("ann"), live.colour_under("ann")), ((4, 4), 0))
        self.same(live.die_of("ann"), rolled_by_hand((1, 2, 3), "EN" * 4))
        for word, times, parts in (("EN", 3, [("EN", 7)]), ("EN", 0, [("EN", 7)]),
                                   ("ENEN", 1, [("EN", 7), ("ENEN", 1)]),
                                   ("W", 0, [("EN", 7), ("ENEN", 1), ("W", 0)]), ("W", 1,
                                                                                  [("EN", 7), ("ENEN", 1), ("W", 1)])):
            steps = live.steps()
            self.assertIsNone(live.go("ann", word, times))
            self.same(live.walk_of("ann"), Walk((0, 0), parts))
            self.same(live.steps(), steps + 1)
        live.go(times=LONG, word="S", name="ann")
        self.same(live.where("ann"), (8, 9 - LONG))
        self.same(live.die_of("ann"), rolled_by_hand((1, 2, 3), "EN" * 9 + "W" + "S" * (LONG % 4)))
        self.same((live.where("bob"), live.die_of("bob")), ((3, -1), None))
        live.go("ann", "S")
        self.same(live.walk_of("ann").parts[-1], ("S", LONG + 1))

    def test_seven_parts(self):
        live = begun()
        for word in ("E", "N", "E", "W", "S", "E"):
            live.go("bob", word, 0)
        self.changes_nothing(TooMany, "limit", 6, live, live.go, "bob", "N")
        self.changes_nothing(TooMany, "limit", 6, live, live.go, "bob", "N", 0)
        live.go("bob", "E", 5)
        self.same(live.walk_of("bob").parts[-1], ("E", 5))
        live.go("ann", "E")
        self.same(len(live.walk_of("ann").parts), 2)

    def test_wrong_names(self):
        live = begun()
        calls = {live.walk_of: (), live.where: (), live.die_of: (), live.colour_under: (), live.take: (),
                 live.go: (None, None), live.stood: (None,), live.stood_at: (None, None), live.met: (None,)}
        for value in NO_NAMES + ["cat", "an"]:
            for function, more in calls.items():
                self.changes_nothing(BadName, "name", value, live, function, value, *more)
            self.changes_nothing(BadName, "name", value, live, live.met, "ann", value)
            self.bears(BadName, "name", value, live.met, other=value, one="bob")
            self.bears(BadName, "name", value, live.where, name=value)
            self.bears(BadName, "name", value, live.stood_at, n=None, colour=None, name=value)
        for value in NO_NAMES + ["ann", "bob"]:
            for cell, die in (((0, 0), None), (None, None), ((0, 0), (1, 1, 1))):
                self.changes_nothing(BadName, "name", value, live, live.put, value, cell, die)
            self.bears(BadName, "name", value, live.put, die=5, cell=5, name=value)

    def test_wrong_arguments(self):
        full = begun()
        for name in NAMES[1:5]:
            full.put(name, (0, 0))
        for live in (begun(), full):
            for value in NO_PAIRS:
                for die in (None, (1, 2, 3), 5):
                    self.changes_nothing(BadPart, "part", "cell", live, live.put, "fox", value, die)
            for value in NO_DICE[1:]:
                self.changes_nothing(BadPart, "part", "die", live, live.put, "fox", (0, 0), value)
            self.refuses(live.go, {"name": "ann", "word": "EN", "times": 1})
            self.refuses(live.stood, {"name": "ann", "colour": 0})
            self.refuses(live.stood_at, {"name": "ann", "colour": 0, "n": 0})
        for word in ("E", "N", "E", "W", "S", "E"):
            full.go("bob", word, 0)
        self.changes_nothing(BadPart, "part", "word", full, full.go, "bob", "X")
        self.changes_nothing(BadNumber, "number", -1, full, full.go, "bob", "N", -1)


class AskedTest(LiveCase):
    def test_step_by_step(self):
        chance, words = random.Random(403), some_words(404, 60, 4)
        regions, carpets = some_regions(405, 20, (None,)), some_carpets(406, 20, (1, 2, 3))
        live = Live(CHESS)
        for name in NAMES[:3]:
            live.put(name, (chance.randrange(-3, 4), chance.randrange(-3, 4)), (1, 2, 3))
        for step in range(40):
            name = chance.choice(live.names())
            if step % 4 == 3:
                live.lay(regions.pop(), carpets.pop()) if len(live.now()) < 4 else live.lift()
            elif len(live.walk_of(name).parts) < 6:
                live.go(name, words.pop(), chance.randrange(5))
            floor, walk = live.now(), live.walk_of(name)
            cells = cells_walked(walk)
            for colour in (0, 1):
                moments = [moment for moment, cell in enumerate(cells) if floor.colour(cell) == colour]
                self.same(live.stood(name, colour), len(moments))
                self.same(live.stood(name, colour), floor_stands(walk, ~Region(), floor, colour))
                for n in {0, 1, len(moments) // 2, len(moments) - 1, len(moments), GREAT} - {-1}:
                    self.same(live.stood_at(name, colour, n), moments[n] if n < len(moments) else None)
            other = chance.choice(NAMES[:3])
            others = cells_walked(live.walk_of(other))
            self.same(live.met(name, other), len([one for one, two in zip(cells, others) if one == two]))
            self.same(live.met(name, other), many_meetings(walk, live.walk_of(other)))
            self.same(live.where(name), cells[-1])
            self.same(live.colour_under(name), floor.colour(cells[-1]))

    def test_beside_what_is_told_at_once(self):
        chance, words = random.Random(407), some_words(408, 400, 3)
        regions, carpets = some_regions(409, 60, (None,)), some_carpets(410, 60, (1, 2, 3))
        live, history, at = Live(CHESS), [([], {})], 0
        refused = 0
        for step in range(250):
            layers, walkers = history[at]
            name, word, times = chance.choice(NAMES[:3]), words.pop(), chance.choice([0, 1, 3, LONG])
            deed = chance.choice(["lay", "lift", "put", "take", "go", "go", "go", "undo", "undo", "redo"])
            region, carpet, cell = regions[step % 60], carpets[step % 60], (chance.randrange(-3, 4),
                                                                            chance.randrange(-3, 4))
            calls = {"lay": lambda: live.lay(region, carpet), "lift": live.lift, "put": lambda: live.put(name, cell,
                                                                                                         (1, 2, 3)),
                     "take": lambda: live.take(name), "go": lambda: live.go(name, word, times), "undo": live.undo,
                     "redo": live.redo}
            after = self.told_behind(deed, layers, walkers, (region, carpet), name, cell, word, times)
            if deed in ("undo", "redo"):
                goal = at + (1 if deed == "redo" else -1)
                after = history[goal] if 0 <= goal < len(history) else None
            if after is None:
                refused += 1
                with self.assertRaises((ValueError, RuntimeError, OverflowError)):
                    calls[deed]()
            else:
                calls[deed]()
                at = goal if deed in ("undo", "redo") else at + 1
                history = history if deed in ("undo", "redo") else history[:at] + [after]
            self.compare(live, *history[at])
            self.same(live.steps(), at)
        self.assertGreater(refused, 20)

    def told_behind(self, deed, layers, walkers, layer, name, cell, word, times):
        """The layers and the walkers, told as a list and a dict, behind a deed, None if it is refused."""
        if deed == "lay":
            return (layers + [layer], walkers) if len(layers) < 6 else None
        if deed == "lift":
            return (layers[:-1], walkers) if layers else None
        if deed == "put":
            return (layers, {**walkers, name: (cell, [])}) if name not in walkers else None
        if name not in walkers:
            return None
        if deed == "take":
            return layers, {other: told for other, told in walkers.items() if other != name}
        begun, parts = walkers[name]
        if parts and parts[-1][0] == word:
            parts = parts[:-1] + [(word, parts[-1][1] + times)]
        elif len(parts) == 6:
            return None
        else:
            parts = parts + [(word, times)]
        return layers, {**walkers, name: (begun, parts)}

    def compare(self, live, layers, walkers):
        """Check a live floor beside a floor and walks that are told at once."""
        floor = Floor(CHESS, layers)
        self.same((live.now(), live.names()), (floor, list(walkers)))
        walks = {name: Walk(cell, parts) for name, (cell, parts) in walkers.items()}
        for name, walk in walks.items():
            self.same((live.walk_of(name), live.where(name)), (walk, walk.goal()))
            self.same(live.colour_under(name), floor.colour(walk.goal()))
            self.same(live.die_of(name), die_at(walk, (1, 2, 3), walk.end()))
            self.same(live.stood(name, 0), floor_stands(walk, ~Region(), floor, 0))
        for name in list(walks)[1:]:
            self.same(live.met(list(walks)[0], name), many_meetings(walks[list(walks)[0]], walks[name]))

    def test_great_numbers(self):
        live = Live(CHESS)
        live.put("ann", (0, 0))
        live.go("ann", "EN", LONG)
        self.same((live.stood("ann", 0), live.stood("ann", 1), live.stood("ann", 5)), (LONG + 1, LONG, 0))
        live.lay(Region([(10, 10 ** 20, 10, None)]), plain(5))
        self.same(live.stood(colour=5, name="ann"), 2 * 10 ** 20 - 21)
        self.same(live.stood_at(n=0, colour=5, name="ann"), 20)
        self.same(live.stood_at("ann", 5, 10 ** 19), 20 + 10 ** 19)
        self.same(live.stood_at("ann", 5, 2 * 10 ** 20 - 21), None)
        self.same(live.stood_at("ann", 5, 2 * 10 ** 20 - 22), 2 * 10 ** 20 - 2)
        self.same(live.stood_at("ann", 0, 12), 2 * 10 ** 20 + 4)
        live.put("bob", (0, 0))
        live.go("bob", "NE", LONG)
        self.same(live.met(other="bob", one="ann"), LONG + 1)
        self.same(live.met("ann", "ann"), 2 * LONG + 1)


class StepsTest(LiveCase):
    def deeds(self):
        """One deed of each kind."""
        return [
            lambda live: live.lay(THREE, COLUMNS), lambda live: live.lift(), lambda live: live.put("cat", (5, 5),
                                                                                                   (1, 2, 3)),
            lambda live: live.take("bob"), lambda live: live.go("ann", "EN", 3), lambda live: live.go("ann", "W", 0),
            lambda live: live.go("ann", "W", 0), lambda live: live.take("ann"), lambda live: live.put("ann", (1, 1)),
        ]

    def test_undo_and_redo_of_each_kind(self):
        live = begun()
        seen = [told(live)]
        for deed in self.deeds():
            deed(live)
            seen.append(told(live))
        self.same(live.steps(), 5 + 9)
        for _ in range(2):
            for index in range(8, -1, -1):
                self.assertIsNone(live.undo())
                self.same(told(live), seen[index])
            for index in range(1, 10):
                self.assertIsNone(live.redo())
                self.same(told(live), seen[index])
            self.changes_nothing(NothingToUndo, "name", "undone", live, live.redo)
        while live.steps() > 0:
            live.undo()
        self.changes_nothing(NothingToUndo, "name", "step", live, live.undo)
        self.same((live.now(), live.names()), (Floor(CHESS), []))
        self.same(undone(live), 14)

    def test_redo_behind_a_new_step(self):
        for deed in self.deeds()[:6]:
            live = begun()
            self.same(undone(live), 1)
            deed(live)
            self.changes_nothing(NothingToUndo, "name", "undone", live, live.redo)
            self.same(live.steps(), 6)
            live.undo()
            self.same(live.steps(), 5)

    def test_behind_a_refused_step(self):
        live = begun()
        for call in (lambda: live.lay(None, CHESS), lambda: live.put("ann", (0, 0)), lambda: live.take("cat"),
                     lambda: live.go("ann", "x"), lambda: live.go("ann", "E", -1), lambda: live.stood("ann", 10)):
            with self.assertRaises(ValueError):
                call()
            self.same(undone(live), 1)
        live.redo()
        self.same(live.walk_of("bob"), Walk((3, -1), [("N", 9)]))
        self.same(live.steps(), 6)
        live = Live(CHESS)
        live.lay(THREE, COLUMNS)
        live.undo()
        with self.assertRaises(NothingToUndo):
            live.lift()
        live.redo()
        self.same(len(live.now()), 1)

    def test_a_step_that_changes_nothing(self):
        live = Live(CHESS)
        live.lay(Region(), CHESS)
        live.put("ann", (0, 0))
        live.go("ann", "E", 0)
        live.go("ann", "E", 0)
        self.same(live.steps(), 4)
        live.undo()
        self.same(live.walk_of("ann").parts, (("E", 0),))
        live.undo()
        self.same(live.walk_of("ann").parts, ())


class AttemptsTest(LiveCase):
    def test_attempts(self):
        live = begun()
        ahead, left = told(live), undone(live)

        def deed(other):
            self.assertIs(other, live)
            other.lay(THREE, COLUMNS)
            other.take("ann")
            other.undo()
            other.undo()
            other.undo()
            other.undo()
            other.go("bob", "S", LONG)
            return [other.where("bob"), other.steps()]

        self.same(live.attempt(deed), [(3, -1 - LONG), 4])
        self.same((told(live), undone(live)), (ahead, left))
        self.same(live.attempt(deed=lambda other: None), None)
        live.redo()
        self.same(live.steps(), 6)

    def test_attempts_that_end_with_an_error(self):
        live = begun()
        ahead, left = told(live), undone(live)

        def deed(other):
            other.take("ann")
            other.go("ann", "E")

        self.bears(BadName, "name", "ann", live.attempt, deed)
        self.same((told(live), undone(live)), (ahead, left))

        class Odd(BaseException):
            pass

        def odd(other):
            other.lift()
            raise Odd

        with self.assertRaises(Odd):
            live.attempt(odd)
        self.same((told(live), undone(live)), (ahead, left))

    def test_attempts_within_attempts(self):
        live = begun()
        ahead = told(live)

        def deed(other):
            other.lift()
            inner = told(other)
            other.attempt(lambda same: same.lift())
            self.same(told(other), inner)
            with other.trial() as same:
                same.take("bob")
            self.same(told(other), inner)
            return other.steps()

        self.same(live.attempt(deed), 6)
        self.same(told(live), ahead)

    def test_trials(self):
        live = begun()
        ahead, left = told(live), undone(live)
        with live.trial() as same:
            self.assertIs(same, live)
            same.undo()
            same.undo()
            same.put("cat", (7, 7))
            self.same(live.names(), ["ann", "bob", "cat"])
        self.same((told(live), undone(live)), (ahead, left))
        with self.assertRaises(BadName):
            with live.trial():
                live.take("bob")
                live.take("bob")
        self.same((told(live), undone(live)), (ahead, left))
        # What counts is how it is ahead of the block, not how it was when the object was made.
        trial = live.trial()
        live.take("bob")
        ahead = told(live)
        with trial as same:
            same.lift()
        self.same(told(live), ahead)


class TwinsTest(LiveCase):
    def test_twins(self):
        live = begun()
        twin = live.twin()
        self.assertIsNot(twin, live)
        self.same((told(twin), undone(twin), twin), (told(live), undone(live), live))
        ahead, left = told(live), undone(live)
        twin.redo()
        self.same(twin.walk_of("bob"), Walk((3, -1), [("N", 9)]))
        twin.take("bob")
        twin.lift()
        self.same((told(live), undone(live)), (ahead, left))
        self.assertFalse(twin == live)
        ahead, left = told(twin), undone(twin)
        while live.steps() > 0:
            live.undo()
        self.same((told(twin), undone(twin)), (ahead, left))
        self.same(live.twin(), live)

    def test_equal(self):
        live, other = begun(), begun()
        self.same(live == other, True)
        other.redo()
        self.assertFalse(live == other)
        live.go("bob", "NNN", 3)
        self.same((live == other, are_same(live.walk_of("bob"), other.walk_of("bob"))), (True, True))
        live.undo()
        live.go("bob", "N", 8)
        self.assertFalse(live == other)
        live.go("bob", "N")
        self.same(live == other, True)
        # Floors of one colouring, told otherwise; steps do not count.
        live.lay(THREE, plain(5))
        self.same(live == other, True)
        live.lay(THREE, plain(6))
        self.assertFalse(live == other)
        live.lift()
        self.same(live == other, True)
        self.unlike_all(live)
        self.same(live == Everything(), False)

    def test_names_orders_and_dice(self):
        def made(*walkers):
            live = Live(CHESS)
            for walker in walkers:
                live.put(*walker)
            return live

        one = made(("ann", (0, 0)), ("bob", (1, 1), (1, 2, 3)))
        self.same(one == made(("ann", (0, 0)), ("bob", (1, 1), (1, 2, 3))), True)
        for other in (made(("bob", (1, 1), (1, 2, 3)), ("ann", (0, 0))), made(("ann", (0, 0))), made(),
                      made(("ann", (0, 0)), ("bob", (1, 1))), made(("ann", (0, 0), (1, 2, 3)),
                                                                   ("bob", (1, 1), (1, 2, 3))),
                      made(("ann", (0, 0)), ("bob", (1, 1), (1, 3, 2))), made(("ann", (0, 1)),
                                                                              ("bob", (1, 1), (1, 2, 3))),
                      made(("ann", (0, 0)), ("bill", (1, 1), (1, 2, 3)))):
            self.assertFalse(one == other)
            self.assertTrue(one != other)
        # The same cell, come to by unlike moments.
        two, three = made(("ann", (0, 0))), made(("ann", (0, 0)))
        two.go("ann", "EN")
        three.go("ann", "NE")
        self.assertFalse(two == three)

    def test_returned_lists_are_new(self):
        live = begun()
        live.names().append("cat")
        live.now().told_layers().clear()
        self.same(live.names(), ["ann", "bob"])
        self.same(len(live.now()), 2)
