"""The console, line by line."""

import random

from endlessplane.carpets import Carpet, plain
from endlessplane.console import Console
from endlessplane.errors import BadIndex, BadName, BadNumber, BadPart, NothingToUndo, TooMany
from endlessplane.live import Live
from endlessplane.regions import Region
from endlessplane.texts import write_carpet, write_floor, write_region
from tests.helpers import Everything, PlaneCase, Touchy, some_carpets, some_regions, some_words

LONG = 10 ** 30
ASKED = ["show", "names", "steps", "where ann", "die ann", "under ann", "stood ann 0", "stood ann 1 2", "met ann bob",
         "where bob", "die bob"]


def begun():
    """A console with a floor of one layer and two walkers, and a step that is taken back."""
    console = Console()
    for line in ("begin 2 1 1 01", "lay 0 3 0 3 on 1 0 1 5", "put ann 0 0 1 2 3", "put bob 2 1", "go ann EN 2",
                 "go bob S 1", "undo"):
        console.run(line)
    return console


def state(console):
    """All answers to what can be asked, and whether there is a step to do again."""
    answers = [console.run(line) for line in ASKED]
    try:
        console.run("redo")
    except NothingToUndo:
        return answers + ["no redo"]
    answers.append(console.run("show") + console.run("steps"))
    console.run("undo")
    return answers


class ConsoleCase(PlaneCase):
    def answers(self, console, pairs):
        """Check the answers to lines."""
        for line, answer in pairs:
            self.assertEqual((line, console.run(line)), (line, answer))

    def refused(self, error, attribute, value, lines, console=None):
        """Check that lines raise this error, and that nothing has changed."""
        console = console or begun()
        ahead = state(console)
        for line in lines:
            self.bears(error, attribute, value, console.run, line)
            self.bears(error, attribute, value, console.run, line=line)
        self.assertEqual(state(console), ahead)


class AnswersTest(ConsoleCase):
    def test_examples(self):
        self.answers(Console(), [
            ("begin 2 1 1 01", "ok"), ("put ann 0 0 1 2 3", "ok"), ("go ann EN 1000000000000", "ok"),
            ("where ann", "1000000000000 1000000000000"), ("stood ann 0", "1000000000001"), ("die ann", "5 4 1"),
            ("lay 0 2 0 2 on 1 0 1 5", "ok"), ("stood ann 5", "3")])

    def test_each_line(self):
        self.answers(Console(), [
            ("begin 4 0 2 0101 1010", "ok"), ("show", "carpet 2 1 1 01"), ("names", "none"), ("steps", "0"),
            ("put ann 3 -4", "ok"), ("put b 0 0 6 5 4", "ok"), ("names", "ann b"), ("where ann", "3 -4"),
            ("die ann", "none"),
            ("die b", "6 5 4"), ("under ann", "1"), ("under b", "0"), ("go ann W 3", "ok"), ("go ann N 4", "ok"),
            ("where ann", "0 0"), ("stood ann 0", "4"), ("stood ann 1", "4"), ("stood ann 7", "0"),
            ("stood ann 0 0", "1"),
            ("stood ann 0 3", "7"), ("stood ann 0 4", "none"), ("go b E 2", "ok"), ("die b", "1 5 3"),
            ("met ann b", "0"), ("met b b", "3"), ("steps", "5"), ("lay 0 * * 5 on 1 0 1 8", "ok"),
            ("show", "carpet 2 1 1 01 / region 0 * * 5 / carpet 1 0 1 8"), ("under b", "8"), ("stood b 8", "3"),
            ("undo", "ok"), ("show", "carpet 2 1 1 01"), ("stood b 8", "0"), ("redo", "ok"), ("stood b 8", "3"),
            ("lift", "ok"), ("show", "carpet 2 1 1 01"), ("take ann", "ok"), ("names", "b"), ("undo", "ok"),
            ("names", "ann b"),
            ("steps", "7"), ("begin 1 0 1 3", "ok"), ("steps", "0"), ("names", "none"), ("show", "carpet 1 0 1 3")])

    def test_boxes(self):
        console = Console()
        self.answers(console, [
            ("begin 1 0 1 0", "ok"), ("lay on 1 0 1 4", "ok"), ("show", "carpet 1 0 1 0 / region / carpet 1 0 1 4"),
            ("lay 0 1 0 1 5 6 -1 * on 2 0 1 45", "ok"), ("lift", "ok"), ("lift", "ok"),
            ("lay * * * * on 1 0 2 1 2", "ok"), ("show", "carpet 1 0 1 0 / region * * * * / carpet 1 0 2 1 2"),
            ("lift", "ok")])
        boxes = " ".join(f"{3 * at} {3 * at + 1} {at} {at + 2}" for at in range(60))
        console.run(f"lay {boxes} on 1 0 1 9")
        self.same(console.run("show").count(" "), 4 + 2 + 4 * 120 + 1 + 5)

    def test_like_a_live_floor(self):
        chance = random.Random(411)
        carpets, regions = some_carpets(412, 40, (1, 2, 3)), some_regions(413, 40, (None,))
        words, names = some_words(414, 200, 3), ["ann", "bob", "c"]
        console, live = Console(), Live(carpets[0])
        console.run("begin" + write_carpet(carpets[0])[6:])
        for step in range(150):
            name, other, word, many = chance.choice(names), chance.choice(names), words.pop(), chance.randrange(4)
            region, carpet = regions[step % 40], carpets[step % 40].in_normal()
            lay = "lay" + write_region(region)[6:] + " on" + write_carpet(carpet)[6:]
            pairs = [
                (lay, lambda: live.lay(region, carpet)), ("lift", live.lift), ("undo", live.undo), ("redo", live.redo),
                (f"put {name} {many} {-step} 1 2 3", lambda: live.put(name, (many, -step), (1, 2, 3))),
                (f"put {name} {-many} {step}", lambda: live.put(name, (-many, step))),
                (f"take {name}", lambda: live.take(name)),
                (f"go {name} {word} {many}", lambda: live.go(name, word, many)), ("undo", live.undo),
                ("redo", live.redo), (f"go {name} {word[0]} {many}", lambda: live.go(name, word[0], many))]
            self.alike(console, *chance.choice(pairs))
            self.alike(console, "steps", lambda: str(live.steps()))
            self.alike(console, "names", lambda: " ".join(live.names()) or "none")
            self.alike(console, "show", lambda: " / ".join(write_floor(live.now()).split("\n")))
            self.alike(console, f"where {name}", lambda: "{} {}".format(*live.where(name)))
            self.alike(console, f"die {name}", lambda: " ".join(map(str, live.die_of(name) or ["none"])))
            self.alike(console, f"under {name}", lambda: str(live.colour_under(name)))
            self.alike(console, f"stood {name} 0", lambda: str(live.stood(name, 0)))
            self.alike(console, f"stood {name} 1 {many}", lambda: str(live.stood_at(name, 1, many)).lower())
            self.alike(console, f"met {name} {other}", lambda: str(live.met(name, other)))

    def alike(self, console, line, call):
        """Check that a line is answered as a call is, or raises the same error."""
        try:
            answer = call()
        except Exception as error:
            with self.assertRaises(error.__class__) as caught:
                console.run(line)
            self.assertEqual(vars(caught.exception), vars(error))
        else:
            self.assertEqual((line, console.run(line)), (line, "ok" if answer is None else answer))


class RefusedTest(ConsoleCase):
    def test_without_a_live_floor(self):
        console = Console()
        for line in ASKED + ["lay on 1 0 1 4", "lift", "put ann 0 0", "take ann", "go ann E 1", "undo", "redo", "",
                             "begin", "begin 1 0 1 x", "begins 1 0 1 0"]:
            self.bears(BadPart, "part", "line", console.run, line)
        self.bears(BadPart, "part", "b", console.run, "begin 1 1 1 0")
        self.bears(BadPart, "part", "line", console.run, "steps")
        self.same(console.run(line="begin 1 0 1 0"), "ok")
        self.same(console.run("steps"), "0")
        self.no_iteration(console)

    def test_odd_values(self):
        for console in (Console(), begun()):
            for value in (None, True, 5, b"show", ["show"], ("show",), {}, Everything(), Touchy()):
                self.bears(BadPart, "part", "line", console.run, value)
                self.bears(BadPart, "part", "line", console.run, line=value)

    def test_odd_lines(self):
        good = ["begin 1 0 1 0", "lay 0 1 0 1 on 1 0 1 0", "put cat 0 0", "put cat 0 0 1 2 3", "take ann", "go ann E 1",
                "lift", "undo", "redo"] + ASKED
        for line in good:
            begun().run(line)
            words = line.split(" ")
            self.refused(BadPart, "part", "line", [" " + line, line + " ", line + "\n", line.upper(), "x" + line,
                                                   line + " x", line + " *", words[0] + "  " + " ".join(words[1:])])
        self.refused(BadPart, "part", "line", [
            "", " ", "on", "none", "ok", "carpet 1 0 1 0", "region", "show ann", "names ann", "steps 1", "lift 1",
            "undo 1",
            "redo redo", "where", "where ann bob", "die", "die ann 1 2 3", "under", "under 0 0 0", "met", "met ann",
            "met ann bob c",
            "take", "take ann bob", "begin", "begin 1 0", "begin carpet 1 0 1 0", "go", "go ann", "go ann E",
            "go ann 1 E", "go ann E 1 2",
            "stood", "stood ann", "stood ann 0 0 0", "put", "put cat", "put cat 0", "put cat 0 0 1", "put cat 0 0 1 2",
            "put cat 0 0 1 2 3 4", "lay", "lay on", "lay 0 1 0 1", "lay 0 1 0 on 1 0 1 0", "lay 0 1 0 1 on",
            "lay 1 0 1 0",
            "lay on on 1 0 1 0", "lay 0 1 0 1 on on 1 0 1 0", "lay region on 1 0 1 0", "lay on 1 0 1 0 on",
            "lay on carpet 1 0 1 0",
            "where ", "take ", "die ", "put  0 0", "met ann ", "met  ann", "stood  0", "go  E 1", "go ann  1", "names ",
            "n", "nii", "lay ann", "0", "__init__"])

    def test_odd_words(self):
        for word in ("-0", "00", "01", "1.0", "x", "*", "1" * 61, "--1", "+1", "E"):
            self.refused(BadPart, "part", "line", [
                f"put cat {word} 0", f"put cat 0 {word}", f"put cat 0 0 {word} 2 3", f"put cat 0 0 1 {word} 3",
                f"put cat 0 0 1 2 {word}",
                f"go ann E {word}", f"stood ann {word}", f"stood ann 0 {word}", f"stood ann {word} 0",
                f"begin {word} 0 1 0", f"begin 1 {word} 1 0", f"begin 1 0 {word} 0", f"lay on {word} 0 1 0"])
            if word != "*":
                self.refused(BadPart, "part", "line", [f"lay {word} 5 0 1 on 1 0 1 0", f"lay 0 1 0 {word} on 1 0 1 0"])
        for word in ("e", "EX", "0", "5", "*", "-1", "en", "E,N"):
            self.refused(BadPart, "part", "line", [f"go ann {word} 1"])
        self.refused(BadPart, "part", "line", ["begin 1 0 1 a", "begin 1 0 1 *", "begin 1 0 1 -1", "lay on 1 0 1 a"])
        # The form comes first, whatever the name is.
        self.refused(BadPart, "part", "line", ["go Ann e 1", "put Ann 0 00", "stood Ann x"])

    def test_as_the_calls_raise(self):
        for name in ("cat", "Ann", "a1", "0", "ninelongs", "*", "ann,"):
            lines = [f"where {name}", f"die {name}", f"under {name}", f"stood {name} 0", f"stood {name} 10",
                     f"stood {name} 0 -1",
                     f"met {name} ann", f"met ann {name}", f"take {name}", f"go {name} E 1", f"go {name} E -1"]
            self.refused(BadName, "name", name, lines)
            if name != "cat":
                self.refused(BadName, "name", name, [f"put {name} 0 0", f"put {name} 0 0 1 1 1"])
        self.refused(BadName, "name", "ann", ["put ann 0 0", "put ann 5 5 1 2 3"])
        self.refused(BadPart, "part", "die", ["put cat 0 0 1 1 2", "put cat 0 0 0 2 3", "put cat 0 0 7 2 3"])
        self.refused(BadPart, "part", "word", ["go ann " + "E" * 25 + " 1", "go ann " + "N" * 30 + " -1"])
        self.refused(BadNumber, "number", -1, ["go ann E -1", "stood ann -1", "stood ann 0 -1", "stood ann -1 -5"])
        self.refused(BadNumber, "number", 10, ["stood ann 10", "stood ann 10 0"])
        self.refused(BadIndex, "index", 1, ["lay 0 1 0 1 1 1 0 1 on 1 0 1 0", "lay * * * * 5 4 * * on 0 0 0",
                                            "begin 2 0 2 01 012", "lay on 2 0 2 01 0"])
        self.refused(BadPart, "part", "a", ["begin 0 0 1", "lay on -1 0 1"])
        self.refused(BadPart, "part", "rows", ["begin 1 0 1", "lay 0 1 0 1 on 1 0 1 0 0"])
        self.refused(TooMany, "limit", 144, ["begin 13 0 12 0", "lay on 145 0 1 0"])

    def test_limits(self):
        console = begun()
        for index in range(5):
            console.run(f"lay 0 1 0 1 on 1 0 1 {index}")
        self.refused(TooMany, "limit", 6, ["lay 0 1 0 1 on 1 0 1 7"], console)
        console = begun()
        for name in "cdef":
            console.run(f"put {name} 0 0")
        self.refused(TooMany, "limit", 6, ["put g 0 0"], console)
        console = begun()
        for word in ("N", "E", "N", "E", "S"):
            console.run(f"go ann {word} {LONG}")
        self.refused(TooMany, "limit", 6, ["go ann N 1"], console)
        self.same(console.run("go ann S 1"), "ok")
        console = Console()
        console.run("begin 1 0 1 0")
        self.bears(NothingToUndo, "name", "step", console.run, "undo")
        self.bears(NothingToUndo, "name", "undone", console.run, "redo")
        self.bears(NothingToUndo, "name", "layer", console.run, "lift")

    def test_two_consoles(self):
        one, other = begun(), Console()
        self.bears(BadPart, "part", "line", other.run, "show")
        other.run("begin 1 0 1 7")
        self.same((one.run("names"), other.run("names")), ("ann bob", "none"))


class WholeTest(ConsoleCase):
    def test_great_numbers(self):
        console = Console()
        self.answers(console, [
            ("begin 2 1 1 01", "ok"), (f"put ann -{LONG} {LONG}", "ok"), (f"go ann EES {LONG}", "ok"),
            ("where ann", f"{LONG} 0"), (f"lay {10 ** 20} * 0 * on 1 0 1 6", "ok"), ("under ann", "6"),
            ("stood ann 6", str(3 * (LONG - 10 ** 20) // 2 + 2)),
            ("stood ann 6 0", str(3 * (LONG + 10 ** 20) // 2 - 1))])
        region, carpet = Region([(10 ** 20, None, 0, None)]), plain(6)
        live = Live(Carpet(2, 1, 1, ["01"]))
        live.put("ann", (-LONG, LONG))
        live.go("ann", "EES", LONG)
        live.lay(region, carpet)
        self.same(str(live.stood("ann", 6)), console.run("stood ann 6"))
        self.same(str(live.stood_at("ann", 6, 10 ** 19)), console.run(f"stood ann 6 {10 ** 19}"))
