import unittest

from models import Strip, random_deeds
from priceblind import pictures
from priceblind.enemies import fullest
from priceblind.errors import BadDeeds, BadLayout, TooMany
from priceblind.histories import History, layouts
from priceblind.layouts import Layout, dropped, empty, length, live, put_in
from priceblind.pictures import course, picture
from values import NO_OBJECTS, Case

SIGNS = {("payload", "file"): "#", ("payload", "hole"): "o", ("room", "file"): "+"}


def drawn(strip):
    """The picture of a model's strip, cell by cell."""
    signs = ["." if thing is None else SIGNS.get((zone, thing[0]), "x") for _, zone, thing in strip.cells()]
    return tuple("".join(signs[at:at + 64]) for at in range(0, len(signs), 64))


class Pictures(Case):
    def test_example_of_the_interface(self):
        self.same([picture(layouts(fullest(2))[-1]), picture(empty(5))], [("o#x",), ()])

    def test_defined_here(self):
        self.assertEqual([picture.__module__, course.__module__], [pictures.__name__] * 2)
        self.same(picture(layout=empty(2)), ())

    def test_each_sign(self):
        layout = Layout(2, 8, [(0, [("file", 0, 1), ("hole", 1, 1), ("file", 2, 1)], [("shade", 1, 1)]),
                               (2, [("file", 3, 4), ("file", 4, 5)], [("file", 5, 1), ("gone", 6, 2)])])
        self.same(picture(layout), ("#o#x#########+xx.",))
        self.same(picture(dropped(layout, 5)), ("#o#x#########xxx.",))
        self.same(picture(put_in(layout, 1)), ("#o#x#########+xx+",))

    def test_against_cells(self):
        for seed in range(60):
            q, deeds = random_deeds(seed, 50, 12)
            if max(number for word, number in deeds if word == "put") > 300:
                continue
            strip = Strip(q)
            for deed, layout in zip(deeds, layouts(History(q, deeds))):
                strip.do(deed)
                if length(layout) <= 6400:
                    self.same(picture(layout), drawn(strip))

    def test_rows_of_64(self):
        for size in (1, 63, 64, 65, 127, 128, 129, 4000):
            rows = picture(Layout(64, 1, [(size.bit_length() - 1, [("file", 0, size)], [])]))
            many = size + size // 64
            self.same(["".join(rows), [len(row) for row in rows]],
                      ["#" * size + "." * (size // 64), [64] * (many // 64) + [many % 64] * (many % 64 > 0)])

    def test_6400_cells_and_one_more(self):
        for size, many in ((3150, 6399), (3151, 6400), (3152, 6401), (4000, 7262)):
            layout = Layout(64, 2, [(11, [("file", 0, 3151), ("file", 1, size)], [])])
            self.same(length(layout), many)
            if many > 6400:
                self.fails(TooMany, {"what": "cells", "most": 6400}, picture, layout)
            else:
                self.same(picture(layout)[:99], ("#" * 64,) * 98 + ("#" * (size - 3121) + "." * (3185 - size),))
                self.same([len(row) for row in picture(layout)], [64] * 99 + [64 - (6400 - many)])

    def test_wrong_layouts(self):
        for value in NO_OBJECTS + [Layout, empty(2).regions, str(empty(2)), [empty(2)]]:
            self.bad(BadLayout, "layout", picture, value)


class Courses(Case):
    def test_example_of_the_interface(self):
        self.same(course(fullest(2)), ("put 1 : length 1 live 1 writes 2", "put 1 : length 3 live 2 writes 2",
                                       "drop 0 : length 3 live 1 writes 0"))

    def test_against_the_model(self):
        for seed in range(60):
            q, deeds = random_deeds(seed + 40, 50, 12)
            if max(number for word, number in deeds if word == "put") > 300:
                continue
            strip, wanted = Strip(q), []
            for word, number in deeds:
                tidied = strip.do((word, number))
                wrote = (word == "put") + (len(tidied[2]) if tidied else 0)
                lives = sum(size for _, size, _, _ in strip.files().values())
                wanted.append(f"{word} {number} : length {len(strip.cells())} live {lives} writes {wrote}")
            self.same(course(History(q, deeds)), tuple(wanted))

    def test_without_deeds(self):
        self.same([course(History(2, [])), course(history=History(3, ()))], [(), ()])

    def test_wrong_histories(self):
        for value in NO_OBJECTS + [History, fullest(2).deeds, [fullest(2)]]:
            self.bad(BadDeeds, "history", course, value)

    def test_two_hundred_deeds(self):
        deeds = [("put", 4096)] * 100 + [("drop", number) for number in range(100)]
        told, last = course(History(64, deeds)), layouts(History(64, deeds))[98]
        self.same([len(told), told[-1], told[98].split(" ")[4:7]],
                  [200, "drop 99 : length 0 live 0 writes 0", [str(length(last)), "live", str(live(last))]])


if __name__ == "__main__":
    unittest.main()
