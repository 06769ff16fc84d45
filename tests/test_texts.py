"""Texts of carpets, regions, floors, walks and dice, written and read."""

import itertools

from endlessplane.carpets import Carpet, plain
from endlessplane.cuts import boxes_of
from endlessplane.errors import BadIndex, BadPart, BadText, TooMany
from endlessplane.floors import Floor
from endlessplane.regions import Region
from endlessplane.texts import (
    read_carpet, read_die, read_floor, read_region, read_walk, write_carpet, write_die, write_floor, write_region,
    write_walk,
)
from endlessplane.walkforms import told_again
from endlessplane.walks import Walk
from tests.helpers import (
    CHESS, FAR, GREAT, SLANTED, SPARSE, THREE, Everything, PlaneCase, Touchy, every_die, some_carpets, some_floors,
    some_regions, some_walks, stairs,
)

SIXTY = "9" * 60
READERS = (read_carpet, read_region, read_floor, read_walk, read_die)
NO_STRINGS = [None, True, 5, b"die 1 2 3", ["die 1 2 3"], ("walk 0 0",), {}, Everything(), Touchy()]

# Words that are no integer words.
NO_INTEGER_WORDS = ["-0", "00", "01", "-01", "-", "--1", "+1", "1-", "a", "1a", "", "1.0", "1_0", "1" * 61,
                    "-" + "1" * 61, "*", "E", "0x1", "1,", "None"]

# Lines that have no form of any kind.
NO_LINES = ["", " ", "carpets 1 0 1 0", "Region", "floor", "walks 0 0", "dice 1 2 3", "DIE 1 2 3", "1 0 1 0", "carpet",
            "walk", "die", "carpet1 0 1 0"]


class WriteTest(PlaneCase):
    def test_by_hand(self):
        self.same(write_carpet(Carpet(4, 0, 2, ["0101", "1010"])), "carpet 2 1 1 01")
        self.same(write_carpet(carpet=Carpet(3, 0, 2, ["012", "111"])), "carpet 3 0 2 012 111")
        self.same(write_region(Region()), "region")
        self.same(write_region(~Region()), "region * * * *")
        self.same(write_region(region=Region([(0, 2, 0, 2), (1, 3, 1, 3)])), "region 0 2 0 1 0 3 1 2 1 3 2 3")
        self.same(write_region(Region([(-5, None, None, GREAT)])), f"region -5 * * {GREAT}")
        floor = Floor(plain(0), [(Region([(0, 2, 0, 2)]), CHESS), (Region(), plain(3))])
        self.same(write_floor(floor), "carpet 1 0 1 0\nregion 0 2 0 2\ncarpet 2 1 1 01\nregion\ncarpet 1 0 1 3")
        self.same(write_floor(floor=Floor(CHESS)), "carpet 2 1 1 01")
        self.same(write_walk(Walk((0, -7))), "walk 0 -7")
        self.same(write_walk(walk=Walk((1, 2), [("EN", 10 ** 30), ("W", 0)])), "walk 1 2 EN 1" + "0" * 30 + " W 0")
        self.same((write_die((1, 2, 3)), write_die(die=(6, 4, 2))), ("die 1 2 3", "die 6 4 2"))

    def test_written_and_read(self):
        for carpet in some_carpets(391, 25, (1, 2, 3, 4, 12)) + [CHESS, SLANTED, SPARSE, plain(9)]:
            told = read_carpet(write_carpet(carpet))
            self.same((told.a, told.b, told.d, told.rows), carpet.normal())
        for region in some_regions(392, 25, (None,)) + [FAR, ~FAR, stairs(), Region(), ~Region()]:
            self.same(read_region(write_region(region)), region)
            self.same(write_region(region).split(" ")[1:],
                      ["*" if end is None else str(end) for box in boxes_of(region) for end in box])
        for floor in some_floors(393, 14, (None,)):
            told = read_floor(write_floor(floor))
            self.same(told, floor)
            self.same([told.region_of(level) for level in range(len(told) + 1)],
                      [floor.region_of(level) for level in range(len(floor) + 1)])
            self.same([told.carpet_of(level).rows for level in range(len(told) + 1)],
                      [floor.carpet_of(level).normal()[3] for level in range(len(floor) + 1)])
        for walk in some_walks(394, 25) + [Walk((GREAT * 10 - 1, 1 - GREAT * 10), [("E" * 24, GREAT), ("NS", 0)] * 3)]:
            self.same(read_walk(write_walk(walk)), walk)
        for die in every_die():
            self.same(read_die(write_die(die)), die)

    def test_wrong_arguments(self):
        for function, name, value in ((write_carpet, "carpet", CHESS), (write_region, "region", THREE),
                                      (write_floor, "floor", Floor(CHESS)), (write_walk, "walk", Walk((0, 0))),
                                      (write_die, "die", (1, 2, 3))):
            self.refuses(function, {name: value})


class ReadTest(PlaneCase):
    def test_as_told(self):
        told = read_carpet("carpet 4 0 2 0101 1010")
        self.same((told.a, told.b, told.d, told.rows), (4, 0, 2, ("0101", "1010")))
        self.same(read_carpet(text="carpet 1 0 1 7"), plain(7))
        self.same(read_region("region 0 2 0 1 0 2 1 2"), Region([(0, 2, 0, 2)]))
        self.same(read_region(text="region 1 3 1 3 0 2 0 2 1 2 1 2"), Region([(0, 2, 0, 2), (1, 3, 1, 3)]))
        self.same(read_region("region * 0 -3 *"), Region([(None, 0, -3, None)]))
        self.same(read_region("region"), Region())
        self.same(read_walk("walk 0 0 EN 5 EN 0 W 3").parts, (("EN", 5), ("EN", 0), ("W", 3)))
        self.same((read_walk(text="walk -4 0").cell, read_die(text="die 6 5 3")), ((-4, 0), (6, 5, 3)))
        self.same(len(read_floor(text="carpet 1 0 1 0\nregion\ncarpet 1 0 1 3")), 1)
        self.same(read_floor("carpet 1 0 1 0"), Floor(plain(0)))

    def test_many_boxes(self):
        words = [f"{3 * at} {3 * at + 1} {at} {at + 2}" for at in range(90)]
        region = read_region("region " + " ".join(words))
        self.same(all((3 * at, at + 1) in region for at in range(90)), True)
        self.same((4, 3) in region, False)
        self.bears(BadIndex, "index", 90, read_region, "region " + " ".join(words) + " 5 5 0 1")

    def test_sixty_figures(self):
        self.same(read_walk(f"walk {SIXTY} -{SIXTY} E {SIXTY}"),
                  Walk((int(SIXTY), -int(SIXTY)), [("E", int(SIXTY))]))
        self.same(read_region(f"region -{SIXTY} {SIXTY} * *"), Region([(-int(SIXTY), int(SIXTY), None, None)]))
        for line in (f"walk 1{SIXTY} 0", f"walk 0 -1{SIXTY}", f"walk 0 0 E 1{SIXTY}"):
            self.bears(BadText, "line", 0, read_walk, line)

    def test_no_strings(self):
        for function in READERS:
            for value in NO_STRINGS:
                self.bears(BadText, "line", 0, function, value)
                self.bears(BadText, "line", 0, function, text=value)
            for line in NO_LINES:
                self.bears(BadText, "line", 0, function, line)
                self.bears(BadText, "line", 0, function, line + "\ncarpet 1 0 1 0")

    def test_forms(self):
        good = {read_carpet: "carpet 4 0 2 0101 1010", read_region: "region 0 5 -3 7", read_floor: "carpet 2 1 1 01",
                read_walk: "walk 3 -5 EN 7 W 0", read_die: "die 1 2 3"}
        for function, line in good.items():
            function(line)
            for other in good:
                if other != function and {other, function} != {read_carpet, read_floor}:
                    self.bears(BadText, "line", 0, other, line)
            words = line.split(" ")
            for bent in (" " + line, line + " ", line.replace(" ", "  ", 1), line.upper(), "x" + line, line + "\n",
                         line + "\n" + line, line + "\n\n", "\n" + line, line + " x", line.replace(" ", "\n", 1)):
                index = 1 if bent.split("\n")[0] in (line, "region") else 0
                self.bears(BadText, "line", index, function, bent)
            for at in range(1, len(words)):
                if words[at].isalpha() or (function in (read_carpet, read_floor) and at > 3):
                    continue
                for word in NO_INTEGER_WORDS:
                    if not (function == read_region and word == "*"):
                        bent = " ".join(words[:at] + [word] + words[at + 1:])
                        self.bears(BadText, "line", 0, function, bent)

    def test_numbers_of_words(self):
        for many in range(1, 12):
            line = " ".join(["region"] + ["0", "1"] * many)
            if many % 2 == 0:
                self.same(read_region(line), Region([(0, 1, 0, 1)]))
            else:
                self.bears(BadText, "line", 0, read_region, line)
        for line in ("region 0", "region 0 1 0", "region 0 1 0 1 0"):
            self.bears(BadText, "line", 0, read_region, line)
        for line in ("carpet 1 0", "carpet 1", "carpet 0", "carpet 2 0 1 0x", "carpet 2 0 1 01 -1", "carpet 2 0 1 *",
                     "carpet * 0 1 0", "carpet 2 0 1 0 a", "carpet 2 0 1 01 E"):
            self.bears(BadText, "line", 0, read_carpet, line)
            self.bears(BadText, "line", 0, read_floor, line)
        for line in ("walk 0", "walk 0 0 E", "walk 0 0 E 5 N", "walk 0 0 5", "walk 0 0 5 E", "walk 0 0 e 5",
                     "walk 0 0 EX 5",
                     "walk 0 0 0 5", "walk 0 0 E E", "walk * 0", "walk 0 0 E 05", "walk 0 0 E *", "walk 0 0 E 5 5"):
            self.bears(BadText, "line", 0, read_walk, line)
        for line in ("walk 0 0  5", "walk 0 0 E ", "walk  0 0", "walk 0 0 "):
            self.bears(BadText, "line", 0, read_walk, line)
        for line in ("carpet 1 0 1 ", "carpet 1 0 1  0", "carpet  0 1 0", "carpet 2 0 2 01  01"):
            self.bears(BadText, "line", 0, read_carpet, line)
        for line in ("region ", "region 0 1 0 ", "region 0 1  0", "region    "):
            self.bears(BadText, "line", 0, read_region, line)
        for line in ("die 1 2", "die 1 2 3 4", "die 123", "die 1 2 *", "die 1 2 E"):
            self.bears(BadText, "line", 0, read_die, line)

    def test_what_cannot_be_made(self):
        for line, part in (("carpet 0 0 1", "a"), ("carpet -1 -7 1", "a"), ("carpet 2 2 1 01", "b"),
                           ("carpet 2 -1 1 01", "b"),
                           ("carpet 1 0 0", "d"), ("carpet 1 0 -5 0", "d"), ("carpet 2 0 1", "rows"),
                           ("carpet 2 0 1 01 01", "rows"), ("carpet 1 0 2 0", "rows")):
            self.bears(BadPart, "part", part, read_carpet, line)
            self.bears(BadPart, "part", part, read_floor, line)
        self.bears(TooMany, "limit", 144, read_carpet, "carpet 145 0 1 0")
        self.bears(TooMany, "limit", 144, read_carpet, f"carpet {SIXTY} 0 {SIXTY}")
        self.bears(BadIndex, "index", 0, read_carpet, "carpet 2 0 1 0")
        self.bears(BadIndex, "index", 1, read_carpet, "carpet 2 0 2 00 000")
        for line, index in (("region 0 0 0 1", 0), ("region 5 * 1 -1", 0), ("region 0 1 0 1 1 0 0 1", 1),
                            ("region * * * * * * 3 3 1 1 1 1", 1)):
            self.bears(BadIndex, "index", index, read_region, line)
        self.bears(BadPart, "part", "parts", read_walk, "walk 0 0" + " E 1" * 7)
        self.bears(BadPart, "part", "parts", read_walk, "walk 0 0" + " E -1" * 7)
        self.bears(BadPart, "part", "parts", read_walk, write_walk(told_again(Walk((0, 0), [("E", 1)]), 7)))
        for line, index in (("walk 0 0 E -1", 0), ("walk 0 0 E 1 N 5 S -3", 2), (f"walk 0 0 E 1 {'N' * 25} 5 S -1", 1)):
            self.bears(BadIndex, "index", index, read_walk, line)
        for line in ("die 1 2 5", "die 1 1 2", "die 0 2 3", "die 7 2 3", "die -1 2 3", f"die 1 2 {SIXTY}", "die 1 2 6"):
            self.bears(BadPart, "part", "die", read_die, line)


class FloorTextsTest(PlaneCase):
    def test_lines(self):
        lines = ["carpet 1 0 1 0", "region 0 2 0 2", "carpet 2 1 1 01", "region", "carpet 1 0 1 3"]
        for many in range(1, 6):
            text = "\n".join(lines[:many])
            if many % 2 == 1:
                self.same(len(read_floor(text)), many // 2)
            else:
                self.bears(BadText, "line", many, read_floor, text)
            self.bears(BadText, "line", many, read_floor, text + "\n")
            for at in range(many):
                for bent in NO_LINES + ["die 1 2 3", "walk 0 0", lines[1 - at % 2], lines[at] + " ", lines[at] + " x"]:
                    told = "\n".join(lines[:at] + [bent] + lines[at + 1:many])
                    self.bears(BadText, "line", at, read_floor, told)
        self.bears(BadText, "line", 0, read_floor, "\n".join(lines[1:]))
        self.bears(BadText, "line", 1, read_floor, "\n".join(lines[::2]))

    def test_forms_of_all_lines_come_first(self):
        self.bears(BadText, "line", 2, read_floor, "carpet 0 0 1\nregion 1 1 1 1\ncarpet 1 0")
        self.bears(BadText, "line", 2, read_floor, "carpet 0 0 1\nregion 1 1 1 1")
        self.bears(BadPart, "part", "a", read_floor, "carpet 0 0 1\nregion 1 1 1 1\ncarpet 1 1 1 0")
        self.bears(BadIndex, "index", 0, read_floor, "carpet 1 0 1 0\nregion 1 1 1 1\ncarpet 1 1 1 0")
        self.bears(BadPart, "part", "b", read_floor, "carpet 1 0 1 0\nregion 1 2 1 2\ncarpet 1 1 1 0")
        self.bears(TooMany, "limit", 144, read_floor, "carpet 1 0 1 0\nregion 1 2 1 2\ncarpet 13 0 12 0")
        self.bears(BadText, "line", 1, read_carpet, "carpet 0 0 1\n")
        self.bears(BadText, "line", 1, read_walk, "walk 0 0 E -1\nwalk 0 0")
        self.bears(BadText, "line", 1, read_die, "die 1 1 1\n")
        self.bears(BadText, "line", 1, read_region, "region 1 1 1 1\nregion")

    def test_many_layers(self):
        layer = "\nregion 0 2 0 2\ncarpet 2 1 1 01"
        self.same(len(read_floor("carpet 1 0 1 0" + layer * 6)), 6)
        self.bears(TooMany, "limit", 6, read_floor, "carpet 1 0 1 0" + layer * 7)
        self.bears(BadPart, "part", "b", read_floor, "carpet 1 0 1 0" + layer * 6 + "\nregion\ncarpet 1 3 1 0")
        self.bears(BadText, "line", 15, read_floor, "carpet 1 0 1 0" + layer * 7 + "\n")

    def test_boxes_of_a_layer(self):
        words = [f"{3 * at} {3 * at + 1} {at} {at + 2}" for at in range(60)]
        floor = read_floor("carpet 1 0 1 0\nregion " + " ".join(words) + "\ncarpet 1 0 1 8")
        self.same([floor.colour((3 * at, at)) for at in range(60)], [8] * 60)
        self.same(read_floor(write_floor(floor)), floor)


class WordsTest(PlaneCase):
    def test_integer_words(self):
        for word in ["0", "7", "10", "-1", "-10", SIXTY, "-" + SIXTY]:
            self.same(read_walk(f"walk {word} 0").cell, (int(word), 0))
        for signs in itertools.product("-019a*", repeat=3):
            word = "".join(signs)
            if word.lstrip("-").isdigit() and str(int(word.replace("--", "") or "0")) == word:
                self.same(read_walk(f"walk {word} 0").cell, (int(word), 0))
            else:
                self.bears(BadText, "line", 0, read_walk, f"walk {word} 0")
