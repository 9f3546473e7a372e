"""What holds of the whole program: the facts of the last point of the document, and rules for all of its parts."""
import ast
import importlib
import inspect
import random
import unittest
from pathlib import Path

import priceblind
from models import random_deeds
from priceblind.bills import bill
from priceblind.check_bills import shows_bill
from priceblind.check_tidyings import shows_copies
from priceblind.enemies import dear, fullest, scattered
from priceblind.errors import StripError
from priceblind.histories import History, layouts, sizes, tidyings, writes
from priceblind.layouts import empty, length, live, places
from priceblind.papers import Denial, Paper
from priceblind.pictures import course, picture
from priceblind.prices import below, cost, most, most_for
from priceblind.stores import Store
from store_models import Logged, names_from, random_call
from test_prices import random_table
from values import Case

# Module: what the interface lists there.
INTERFACE = {
    "errors": "StripError BadNumber BadName BadContents BadDisk BadLayout BadDeeds BadPrices BadStore Misfit Missing NoFile "
              "NoView Twice TooMany Impossible BadText Out",
    "checks": "is_integer is_within are_integers is_lot is_name",
    "papers": "fixed Paper Denial", "disks": "Disk", "cuts": "twin behind may_lie",
    "layouts": "rank_of Layout read_layout empty places length live room_for put_in dropped",
    "tidyings": "rank_from anew Tidying tidying", "check_tidyings": "shows_copies",
    "histories": "History layouts tidyings sizes writes", "books": "name_number name_of is_record meant Book",
    "states": "first_state unowned after records_of state_of", "stores": "Store",
    "prices": "Falls Tears is_prices Prices below Cover cover steepness cost most most_for",
    "check_prices": "shows_cover", "bills": "Bill bill", "check_bills": "shows_bill",
    "enemies": "fullest dear scattered", "fits": "first_fit", "pictures": "picture course",
}
PARAMETERS = {
    "tidyings.anew": "layout rank put drop", "tidyings.rank_from": "layout size", "tidyings.tidying": "layout deed",
    "check_tidyings.shows_copies": "layout deed value", "prices.cover": "numbers size", "prices.below": "numbers",
    "prices.cost": "table history", "prices.most": "q", "prices.most_for": "q table", "prices.steepness": "table",
    "prices.is_prices": "table", "check_prices.shows_cover": "numbers size value", "bills.bill": "history",
    "check_bills.shows_bill": "history value", "enemies.fullest": "q", "enemies.dear": "q t u turns",
    "enemies.scattered": "q k", "fits.first_fit": "deeds", "pictures.picture": "layout", "pictures.course": "history",
}


def runs(many, first=0):
    """Random runs and enemies of at most 200 deeds."""
    for seed in range(first, first + many):
        q, deeds = random_deeds(seed, 100)
        yield History(q, deeds)
    for q in (2, 3, 4, 64):
        for history in (fullest(q), scattered(q, 4), dear(q, 2, 1, 5), dear(q, 40, 9, 4), dear(q, 9, 1, 2), dear(q, 4096, 2048, 9)):
            yield history


class Interface(Case):
    def test_all_that_is_listed_is_defined_where_it_is_listed(self):
        for module, names in INTERFACE.items():
            path = Path(priceblind.__file__).parent / (module + ".py")
            tree = ast.parse(path.read_text(encoding="utf-8"))
            defined = {node.name for node in tree.body if isinstance(node, (ast.FunctionDef, ast.ClassDef))}
            self.assertEqual(set(names.split()) - defined, set(), module)

    def test_parameters(self):
        for place, names in PARAMETERS.items():
            module, name = place.split(".")
            function = getattr(importlib.import_module("priceblind." + module), name)
            self.assertEqual(list(inspect.signature(function).parameters), names.split())

    def test_papers_and_errors_are_below_one_base(self):
        for module, names in INTERFACE.items():
            for name in names.split():
                value = getattr(importlib.import_module("priceblind." + module), name)
                if not isinstance(value, type):
                    continue
                if issubclass(value, Paper):
                    self.assertIn(value.__bases__, ((Paper,), (Denial,), (object,)))
                    self.assertEqual(issubclass(value, Denial), name in ("Denial", "Falls", "Tears"))
                if issubclass(value, Exception):
                    self.assertIn(value.__bases__[0].__name__, ("ValueError", "StripError", "Missing"))
                    self.assertTrue(issubclass(value, StripError))


class Lengths(Case):
    def test_ahead_of_and_behind_each_deed(self):
        for history in runs(150):
            q = history.q
            for layout in (empty(q),) + layouts(history):
                self.assertLessEqual((q - 1) * length(layout), (q + 1) * live(layout))

    def test_how_far_a_tidying_writes(self):
        for history in runs(150, 200):
            q, ahead = history.q, (empty(history.q),) + layouts(history)
            for number, told in tidyings(history):
                files = {serial: size for layout in (ahead[number], told.layout) for serial, _, size in places(layout)}
                ends = [to + files[serial] for serial, _, to in told.copies]
                if history.deeds[number][0] == "put":
                    ends.append(told.far + history.deeds[number][1])
                greatest, lives = max(files.values()), max(live(ahead[number]), live(told.layout))
                for end in ends:
                    self.assertLessEqual((q - 1) * (end - 1 - 2 * greatest), (q + 2) * lives)

    def test_a_store_to_which_the_enemies_are_told(self):
        for q in (2, 3, 7):
            for history in (fullest(q), dear(q, 6, 2, 3), dear(q, 9, 4, 2), scattered(q, 3)):
                disk = Logged()
                store, names, serials = Store(disk, q), names_from(600), 0
                name_of_file = {}
                for (word, number), layout in zip(history.deeds, layouts(history)):
                    if word == "put":
                        name_of_file[serials] = names[serials]
                        store.put(names[serials], [serials + 1] * number)
                        serials += 1
                    else:
                        store.drop(name_of_file.pop(number))
                    self.assertEqual(store.layout, layout)
                    self.assertLessEqual((q - 1) * length(store.layout), (q + 1) * live(store.layout))
                for serial, name in name_of_file.items():
                    self.same(set(store.read(name)), {serial + 1})


class Copies(Case):
    def test_no_copy_goes_over_a_file_and_none_is_copied_often(self):
        for history in runs(150, 400):
            ahead = (empty(history.q),) + layouts(history)
            for number, told in tidyings(history):
                self.same(shows_copies(ahead[number], history.deeds[number], told.copies), True)
                in_payloads = {thing[1] for _, payload, _ in ahead[number].regions for thing in payload}
                for serial in {serial for serial, _, _ in told.copies}:
                    often = sum(1 for copy in told.copies if copy[0] == serial)
                    put = history.deeds[number][0] == "put" and serial == ahead[number].puts
                    self.assertLessEqual(often, 1 if put else 4 if serial in in_payloads else 2)

    def test_what_a_store_writes_to_the_strip_are_the_writes_of_the_history(self):
        """A store without views writes to its strip just the files that the history writes."""
        for seed in range(40):
            q, deeds = random_deeds(seed, 60, 12)
            if max(number for word, number in deeds if word == "put") > 40:
                continue
            disk = Logged()
            store, names, puts = Store(disk, q), names_from(700), 0
            for deed, wrote in zip(deeds, writes(History(q, deeds))):
                disk.taken()
                if deed[0] == "put":
                    store.put(names[puts], [puts + 1] * deed[1])
                    puts += 1
                else:
                    store.drop(names[deed[1]])
                values = [each[1] for each in disk.taken() if each != "flush" and each[0][0] == 0]
                self.same(values, [serial + 1 for serial, size in wrote for _ in range(size)])


class Costs(Case):
    def test_all_writes_by_any_prices_and_by_numbers_of_any_steepness(self):
        rng = random.Random(3)
        for history in runs(60, 600):
            if max(sizes(history)) > 400:
                continue
            for _ in range(3):
                numbers = (random_table(rng, 400, 1) + [rng.randint(1, 99)] * 400)[:max(sizes(history))]
                spent, bound = cost(below(numbers).table, history)
                self.assertLessEqual(spent, most(history.q) * bound)
                spent, bound = cost(numbers, history)
                self.assertLessEqual(spent, most_for(history.q, numbers) * bound)

    def test_each_history_has_a_right_bill(self):
        for history in runs(60, 800):
            self.same(shows_bill(history, bill(history)), True)


class Alike(Case):
    def test_histories_that_begin_alike_go_alike(self):
        for seed in range(30):
            q, deeds = random_deeds(seed, 60)
            whole = History(q, deeds)
            for many in (0, 1, 20, 59):
                begun = History(q, deeds[:many])
                self.assertEqual(layouts(begun), layouts(whole)[:many])
                self.assertEqual(writes(begun), writes(whole)[:many])
                self.assertEqual(tidyings(begun), tuple(pair for pair in tidyings(whole) if pair[0] < many))
                self.assertEqual(course(begun), course(whole)[:many])
                self.assertEqual(bill(begun).rows, tuple(row for row in bill(whole).rows if row[0] < many))

    def test_what_was_told_stays(self):
        """Whatever a store does later, what it told earlier does not change."""
        rng = random.Random(5)
        store, kept = Store(Logged(), 3), []
        for _ in range(60):
            kept.append((store.layout, repr(vars(store.layout)), store.state, repr(store.state.names), store.names,
                         repr(store.names), picture(store.layout), store.files(), repr(store.files())))
            word, parts = random_call(rng, store.names, store.views, 9, 8)
            getattr(store, word)(*parts)
            for layout, told, state, names, tops, tops_told, drawn, files, files_told in kept:
                self.assertEqual([repr(vars(layout)), repr(state.names), repr(tops), picture(layout), repr(files)],
                                 [told, names, tops_told, drawn, files_told])


if __name__ == "__main__":
    unittest.main()
