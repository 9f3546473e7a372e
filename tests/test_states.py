import copy
import random
import unittest

from models import Strip
from priceblind import states
from priceblind.books import name_number, name_of
from priceblind.errors import BadDeeds, BadNumber, BadStore, Misfit
from priceblind.layouts import Layout
from priceblind.states import State, after, first_state, records_of, state_of, unowned
from test_books import NO_RECORDS
from values import NO_OBJECTS, Case, out_of

TOP = 2 ** 63 - 1
KINDS = ("file", "hole", "gone", "shade")
A, B = 1, 2


class Model:
    """A state as the document tells it, which changes: names and views are dicts from names to serials."""

    def __init__(self, q):
        self.strip, self.names, self.views, self.begun, self.copies = Strip(q), {}, {}, 0, []

    def lost(self):
        kept = set(self.names.values()).union(*[view.values() for view in self.views.values()])
        return sorted(serial for serial in self.strip.files() if serial not in kept)

    def deed(self, word, number):
        told = self.strip.do((word, number))
        self.copies = list(told[2]) if told else []

    def follow(self, record):
        """Does what the record tells; False if it cannot follow."""
        word, *numbers = record
        if self.copies:
            return word == "copied" and bool(self.copies.pop(0))
        if self.lost():
            if record != ("drop", self.lost()[0]):
                return False
            self.deed(*record)
            return True
        steps = {"put": self.put, "drop": self.drop, "view": self.view, "letgo": self.letgo}
        return word in steps and steps[word](*numbers)

    def put(self, number, size):
        try:
            name = name_of(number)
        except BadNumber:
            return False
        if name in self.names or not 1 <= size <= 4096 or len(self.strip.files()) >= 200:
            return False
        self.names[name] = self.strip.puts
        self.deed("put", size)
        return True

    def drop(self, serial):
        names = [name for name in self.names if self.names[name] == serial]
        if not names:
            return False
        del self.names[names[0]]
        if serial in self.lost():
            self.deed("drop", serial)
        return True

    def view(self, number):
        if number != self.begun or len(self.views) >= 20:
            return False
        self.views[number] = dict(self.names)
        self.begun += 1
        return True

    def letgo(self, number):
        return self.views.pop(number, None) is not None

    def turned(self):
        rows = [("start", self.strip.q, self.strip.puts, self.begun)]
        for rank, payload, room in self.strip.parts():
            rows.append(("region", rank))
            rows += [("thing", 0, KINDS.index(word), serial, size) for word, serial, size in payload]
            rows += [("thing", 1, KINDS.index(word), serial, size) for word, serial, size in room]
        rows += [("named", serial, name_number(name)) for name, serial in sorted(self.names.items())]
        for view in sorted(self.views):
            rows.append(("seen", view))
            rows += [("viewed", view, serial, name_number(name)) for name, serial in sorted(self.views[view].items())]
        return tuple(rows)

    def told(self):
        return [self.strip.puts, self.strip.parts(), tuple(sorted(self.names.items())),
                tuple((view, tuple(sorted(self.views[view].items()))) for view in sorted(self.views)),
                self.begun, tuple(self.copies)]


def told(state):
    return [state.layout.puts, state.layout.regions, state.names, state.views, state.begun, state.copies]


def followed(state, *records):
    for record in records:
        state = after(state, record)
    return state


def rest(state):
    """The state at rest to which this one goes on."""
    while state.copies or unowned(state):
        state = after(state, ("copied",) if state.copies else ("drop", unowned(state)[0]))
    return state


def random_records(rng, model, greatest, most_files):
    """A record that can follow, as a rule."""
    if model.copies:
        return ("copied",)
    if model.lost():
        return ("drop", model.lost()[0])
    kind = rng.random()
    if kind < 0.08:
        return ("view", model.begun)
    if kind < 0.15 and model.views:
        return ("letgo", rng.choice(list(model.views)))
    if (kind < 0.5 or len(model.names) >= most_files) and model.names:
        return ("drop", rng.choice(list(model.names.values())))
    return ("put", rng.randint(1, 26), rng.randint(1, greatest))


class Example(Case):
    def test_example_of_the_interface(self):
        new = after(first_state(4), ("put", name_number("a"), 3))
        self.same([new.names, new.layout.regions, new.copies, new.views, new.begun, unowned(new)],
                  [(("a", 0),), ((1, (("file", 0, 3),), ()),), ((0, 3, 0),), (), 0, ()])
        rest = after(new, ["copied"])
        self.same([rest.copies, records_of(rest), state_of(records_of(rest)) == rest],
                  [(), (("start", 4, 1, 0), ("region", 1), ("thing", 0, 0, 0, 3), ("named", 0, 1)), True])
        kept = after(after(rest, ("view", 0)), ("drop", 0))
        self.same([kept.names, kept.views, unowned(kept), unowned(after(kept, ("letgo", 0)))],
                  [(), ((0, (("a", 0),)),), (), (0,)])
        self.bad(Misfit, "record", after, new, ("drop", 0))

    def test_all_are_defined_here(self):
        for each in (State, first_state, unowned, after, records_of, state_of):
            self.assertEqual(each.__module__, states.__name__)
        self.assertIn("__eq__", vars(State))

    def test_by_name(self):
        state = first_state(q=3)
        self.same([unowned(state=state), records_of(state=state), after(state=state, record=("view", 0)).begun],
                  [(), (("start", 3, 0, 0),), 1])
        self.assertEqual(state_of(records=[("start", 3, 0, 0)]), state)


class First(Case):
    def test_nothing_was_ever_put(self):
        for q in range(2, 65):
            state = first_state(q)
            self.assertIsInstance(state, State)
            self.same([state.layout.q, told(state), unowned(state)], [q, [0, (), (), (), 0, ()], ()])
        self.assertIsInstance(first_state(2).layout, Layout)
        for q in out_of(2, 64):
            self.bad(BadNumber, "q", first_state, q)

    def test_wrong_states(self):
        for value in NO_OBJECTS + [State, first_state(2).layout, ("start", 2, 0, 0)]:
            self.bad(BadStore, "state", unowned, value)
            self.bad(BadStore, "state", after, value, None)
            self.bad(BadStore, "state", records_of, value)


class Following(Case):
    def test_random_runs_against_the_model(self):
        for seed in range(120):
            rng = random.Random(seed)
            q, greatest, most_files = rng.choice([2, 2, 3, 5, 64]), rng.choice([1, 3, 9, 40]), rng.choice([2, 8, 20])
            model, state = Model(q), first_state(q)
            records = [("start", q, 0, 0)]
            for _ in range(60):
                record = random_records(rng, model, greatest, most_files)
                self.follow(model, state, record, records)
                for wrong in self.others(rng, model):
                    if not copy.deepcopy(model).follow(wrong):
                        self.bad(Misfit, "record", after, state, wrong)
                if not copy.deepcopy(model).follow(record):
                    continue
                before = [repr(told(state)), repr(state.layout.regions)]
                behind = after(state, list(record) if rng.random() < 0.5 else record)
                self.assertEqual([repr(told(state)), repr(state.layout.regions)], before)
                self.assertTrue(model.follow(record))
                state = behind
                records.append(record)
                self.same(told(state), model.told())
                self.same(unowned(state), tuple(model.lost()))
                self.turn(model, state)
            self.assertEqual(state_of(records), state)
            self.same(told(state_of([list(record) for record in records])), told(state))

    def follow(self, model, state, record, records):
        if not copy.deepcopy(model).follow(record):
            self.bad(Misfit, "record", after, state, record)
            self.bad(Misfit, "records", state_of, records + [record])

    def others(self, rng, model):
        """Records that can follow or not."""
        serials = sorted(model.strip.files()) + [model.strip.puts]
        return [("copied",), ("drop", rng.choice(serials)), ("view", rng.randrange(model.begun + 2)),
                ("letgo", rng.randrange(model.begun + 1)), ("put", rng.randint(0, 60), rng.choice([0, 1, 4097])),
                ("start", 2, 0, 0), ("region", 0), ("thing", 0, 0, 0, 1), ("named", 0, 1), ("seen", 0), ("viewed", 0, 0, 1)]

    def turn(self, model, state):
        if model.copies or model.lost():
            self.bad(Misfit, "rest", records_of, state)
        else:
            self.same(records_of(state), model.turned())
            self.assertEqual(state_of(list(records_of(state))), state)

    def test_no_record(self):
        for value in NO_RECORDS:
            self.bad(BadDeeds, "record", after, first_state(2), value)

    def test_only_copied_follows_while_copies_are_left(self):
        state = followed(first_state(2), ("put", A, 4))
        for record in (("drop", 0), ("put", B, 1), ("view", 0), ("letgo", 0), ("start", 2, 0, 0), ("named", 0, 1)):
            self.bad(Misfit, "record", after, state, record)
        state = after(state, ("copied",))
        self.bad(Misfit, "record", after, state, ("copied",))
        self.same(unowned(state), ())

    def test_copies_are_left_in_their_order(self):
        state = rest(followed(first_state(2), ("put", A, 4)))
        for number in (B, 3, 4):
            state = after(state, ("put", number, 1))
        wanted = ((1, 4, 11), (2, 5, 12), (0, 0, 4), (1, 11, 0), (2, 12, 1), (3, 10, 2))
        for many in range(7):
            self.same([state.copies, state.layout.puts, len(state.names)], [wanted[many:], 4, 4])
            if many < 6:
                state = after(state, ("copied",))
        self.same(unowned(state), ())

    def test_puts(self):
        state = rest(followed(first_state(2), ("put", A, 4)))
        wrong = [("put", A, 1), ("put", 0, 1), ("put", 27, 1), ("put", 27 ** 12, 1), ("put", TOP, 1), ("put", B, 0),
                 ("put", B, 4097), ("put", B, TOP)]
        for record in wrong:
            self.bad(Misfit, "record", after, state, record)
        self.same(after(state, ("put", 27 ** 12 - 1, 1)).names, (("a", 0), ("z" * 12, 1)))
        self.same(after(state, ("put", B, 4096)).layout.puts, 2)
        # Names stand ascending, however late they are put.
        state = followed(state, ("put", name_number("ab"), 1))
        self.same(rest(followed(rest(state), ("put", name_number("aa"), 1))).names, (("a", 0), ("aa", 2), ("ab", 1)))

    def test_at_most_200_files(self):
        state = first_state(64)
        names = [number for number in range(1, 260) if number % 27]
        for number in names[:200]:
            state = rest(after(state, ("put", number, 1)))
        self.bad(Misfit, "record", after, state, ("put", names[200], 1))
        self.same(len(after(state, ("drop", 0)).names), 199)
        # A file that a view alone has counts, too.
        seen = followed(state, ("view", 0), ("drop", 7))
        self.bad(Misfit, "record", after, seen, ("put", names[200], 1))
        gone = rest(after(seen, ("letgo", 0)))
        self.same(len(rest(after(gone, ("put", names[200], 1))).names), 200)
        self.assertEqual(state_of(records_of(state)), state)

    def test_at_most_20_views_stand(self):
        state = first_state(2)
        for number in range(20):
            self.bad(Misfit, "record", after, state, ("view", number + 1))
            state = after(state, ("view", number))
        self.bad(Misfit, "record", after, state, ("view", 20))
        state = after(state, ("letgo", 7))
        self.bad(Misfit, "record", after, state, ("letgo", 7))
        self.bad(Misfit, "record", after, state, ("view", 7))
        state = after(state, ("view", 20))
        self.same([[number for number, _ in state.views], state.begun], [[k for k in range(21) if k != 7], 21])
        self.assertEqual(state_of(records_of(state)), state)

    def test_views_keep_what_names_were(self):
        state = rest(followed(first_state(2), ("put", A, 1)))
        state = rest(followed(state, ("view", 0), ("put", B, 2)))
        state = followed(state, ("view", 1), ("drop", 0))
        self.same([state.names, unowned(state), [serial for serial, _ in sizes(state)]], [(("b", 1),), (), [0, 1]])
        # The name is free: a file of the same name may be put.
        state = rest(after(state, ("put", A, 1)))
        self.same([state.names, state.views],
                  [(("a", 2), ("b", 1)), ((0, (("a", 0),)), (1, (("a", 0), ("b", 1))))])
        self.bad(Misfit, "record", after, state, ("drop", 0))
        state = after(state, ("letgo", 0))
        self.same(unowned(state), ())
        state = after(state, ("letgo", 1))
        self.same(unowned(state), (0,))

    def test_unowned_files_are_dropped_the_least_one_first(self):
        state = first_state(2)
        for number in range(1, 6):
            state = rest(after(state, ("put", number, number)))
        state = followed(state, ("view", 0), ("drop", 3), ("drop", 1), ("drop", 4), ("letgo", 0))
        self.same(unowned(state), (1, 3, 4))
        for record in (("drop", 3), ("drop", 0), ("copied",), ("put", 7, 1), ("view", 1), ("letgo", 0), ("drop", 9)):
            self.bad(Misfit, "record", after, state, record)
        self.bad(Misfit, "rest", records_of, state)
        state = after(state, ("drop", 1))
        while state.copies:
            self.same(unowned(state), (3, 4))
            state = after(state, ("copied",))
        self.same([unowned(state), unowned(rest(state)), rest(state).names], [(3, 4), (), (("a", 0), ("c", 2))])

    def test_a_drop_may_need_a_tidying_without_copies(self):
        state = rest(after(first_state(2), ("put", A, 3)))
        behind = after(state, ("drop", 0))
        self.same(told(behind), [1, (), (), (), 0, ()])
        self.same(records_of(behind), (("start", 2, 1, 0),))


def sizes(state):
    return [thing[1:] for _, payload, room in state.layout.regions for thing in payload + room if thing[0] == "file"]


class Equal(Case):
    def test_equal(self):
        one = rest(after(first_state(2), ("put", A, 3)))
        self.assertIs(one == rest(after(first_state(2), ["put", A, 3])), True)
        self.assertIs(one == state_of(records_of(one)), True)
        self.assertIs(one != state_of(records_of(one)), False)
        unlike = [first_state(2), first_state(3), rest(after(first_state(3), ("put", A, 3))), after(one, ("view", 0)),
                  rest(after(first_state(2), ("put", B, 3))), rest(after(first_state(2), ("put", A, 2))),
                  after(first_state(2), ("put", A, 3)), followed(one, ("view", 0), ("letgo", 0)), after(one, ("drop", 0)),
                  state_of([("start", 2, 1, 0)]), followed(one, ("view", 0), ("drop", 0))]
        seen = followed(one, ("view", 0), ("view", 1))
        self.assertIs(after(seen, ("letgo", 0)) == after(seen, ("letgo", 1)), False)
        self.assertIs(after(seen, ("letgo", 0)) == seen, False)
        for other in unlike + NO_OBJECTS + [State, one.layout, records_of(one)]:
            self.assertIs(one == other, False)
            self.assertIs(other == one, False)
            self.assertIs(one != other, True)

    def test_attributes(self):
        for state in (first_state(2), after(first_state(2), ("put", A, 3))):
            self.assertEqual(sorted(vars(state)), ["begun", "copies", "layout", "names", "views"])
            self.assertEqual([type(part) for part in (state.names, state.views, state.copies)], [tuple] * 3)


# A state at rest with all kinds of things: names, views, a file that a view alone has.
GOOD = (
    ("start", 2, 9, 4), ("region", 0), ("thing", 0, 0, 1, 1), ("thing", 0, 1, 2, 1), ("thing", 1, 3, 2, 1),
    ("region", 2), ("thing", 0, 0, 0, 4), ("thing", 1, 2, 3, 1), ("thing", 1, 0, 4, 1), ("named", 1, 1),
    ("named", 0, 28), ("seen", 1), ("viewed", 1, 1, 1), ("viewed", 1, 4, 5), ("seen", 3))


class Meaning(Case):
    def test_a_state_at_rest(self):
        state = state_of(GOOD)
        self.same(told(state)[2:], [(("a", 1), ("aa", 0)), ((1, (("a", 1), ("e", 4))), (3, ())), 4, ()])
        self.same([state.layout.q, state.layout.puts, state.layout.regions],
                  [2, 9, ((0, (("file", 1, 1), ("hole", 2, 1)), (("shade", 2, 1),)),
                          (2, (("file", 0, 4),), (("gone", 3, 1), ("file", 4, 1))))])
        self.same(records_of(state), GOOD)
        self.assertEqual(state_of([list(record) for record in GOOD]), state)

    def test_what_is_no_list_of_records(self):
        for value in NO_OBJECTS + ["start", ("start", 2, 0, 0), {("start", 2, 0, 0): 1}, {("start", 2, 0, 0)}]:
            if value not in ((), []):
                self.bad(BadDeeds, "records", state_of, value)
        for value in NO_RECORDS:
            self.bad(BadDeeds, "records", state_of, [value])
            self.bad(BadDeeds, "records", state_of, list(GOOD) + [value])
            self.bad(BadDeeds, "records", state_of, [("copied",), value])

    def wrong(self, records):
        self.bad(Misfit, "records", state_of, records)
        self.bad(Misfit, "records", state_of, [list(record) for record in records])

    def test_without_a_start(self):
        for records in ([], (), GOOD[1:], [("copied",)], [("put", 1, 1)], [("region", 0)], [("seen", 0)], [("view", 0)]):
            self.wrong(records)

    def test_each_record_is_needed_where_it_stands(self):
        # What is gone may be missing, a view without pairs, and one of the two that have file 1.
        may_miss = [("thing", 1, 2, 3, 1), ("seen", 3), ("named", 1, 1), ("viewed", 1, 1, 1)]
        for at, record in enumerate(GOOD):
            less = GOOD[:at] + GOOD[at + 1:]
            if record in may_miss:
                self.same(records_of(state_of(less)), less)
            else:
                self.wrong(less)
            self.wrong(GOOD[:at] + (record,) + GOOD[at:])
        for at in range(1, len(GOOD) - 1):
            swapped = GOOD[:at] + (GOOD[at + 1], GOOD[at]) + GOOD[at + 2:]
            if {GOOD[at][0], GOOD[at + 1][0]} == {"thing"} and GOOD[at][1] == GOOD[at + 1][1] == 1:
                self.same(records_of(state_of(swapped)), swapped)
            else:
                self.wrong(swapped)

    def test_other_numbers(self):
        # In each number of each record: what may stand there instead, of some tries.
        tries = (0, 1, 2, 3, 4, 5, 9, 12, 13, 27, 28, 30, 64, 65, 4097, TOP)
        fine = {(0, 1): (), (0, 2): (5, 12, 13, 27, 28, 30, 64, 65, 4097, TOP),
                (0, 3): (5, 9, 12, 13, 27, 28, 30, 64, 65, 4097, TOP), (6, 4): (5,), (7, 2): (), (7, 3): (5,), (8, 3): (),
                (9, 2): (), (10, 2): (2, 3, 4, 5, 9, 12, 13, 30, 64, 65, 4097), (11, 1): (),
                (13, 3): (2, 3, 4, 9, 12, 13, 28, 30, 64, 65, 4097),
                (14, 1): (2,)}
        for at, record in enumerate(GOOD):
            for part in range(1, len(record)):
                for number in tries:
                    if number == record[part]:
                        continue
                    other = GOOD[:at] + (record[:part] + (number,) + record[part + 1:],) + GOOD[at + 1:]
                    if number in fine.get((at, part), ()):
                        self.same(records_of(state_of(other)), other)
                    else:
                        self.wrong(other)

    def test_owners(self):
        files = [("start", 2, 3, 2), ("region", 0)] + [("thing", 0, 0, serial, 1) for serial in range(3)]
        names = [("named", serial, serial + 1) for serial in range(3)]
        state_of(files + names)
        state_of(files + names[:2] + [("seen", 0), ("viewed", 0, 2, 9)])
        state_of(files + [("named", 2, 3), ("seen", 0), ("viewed", 0, 0, 3), ("seen", 1), ("viewed", 1, 1, 3)])
        wrong = [
            # A file that nothing has; what is no file; a file of two names; a name of two files.
            names[:2], names[1:], names + [("named", 3, 4)], names[:2] + [("named", 2, 2)], names[:2] + [("named", 0, 3)],
            names + [("seen", 0), ("viewed", 0, 0, 2)], names + [("seen", 0), ("viewed", 0, 3, 4)],
            names[:2] + [("seen", 0), ("viewed", 0, 2, 3), ("seen", 1), ("viewed", 1, 2, 4)],
            names[:1] + [("seen", 0), ("viewed", 0, 1, 5), ("viewed", 0, 2, 5)],
            names + [("named", 0, 1)], names + [("named", 0, 5)],
            # Views that do not ascend, that were never begun, that stand twice; pairs out of order or of another view.
            names + [("seen", 2)], names + [("seen", 1), ("seen", 0)], names + [("seen", 1), ("seen", 1)],
            names + [("seen", 0), ("viewed", 0, 1, 2), ("viewed", 0, 0, 1)], names + [("seen", 0), ("viewed", 1, 0, 1)],
            names + [("viewed", 0, 0, 1)], names[:2] + [("seen", 0), ("named", 2, 3)],
            names + [("seen", 0), ("seen", 1), ("viewed", 0, 0, 1)],
            # Names that are none, or out of order.
            names[:2] + [("named", 2, 0)], names[:2] + [("named", 2, 27)], names[::-1],
            names[:2] + [("seen", 0), ("viewed", 0, 2, 0)], names + [("region", 3)], names + [("start", 2, 3, 2)]]
        for rows in wrong:
            self.wrong(files + rows)

    def test_twenty_views_and_two_hundred_files(self):
        def views(many):
            return [("start", 2, 0, 30)] + [("seen", view) for view in range(many)]
        self.same(len(state_of(views(20)).views), 20)
        self.wrong(views(21))

        def files(many):
            names = [number for number in range(1, 300) if number % 27][:many]
            ordered = sorted(range(many), key=lambda serial: name_of(names[serial]))
            return ([("start", 2, many, 0), ("region", 0)] + [("thing", 0, 0, serial, 1) for serial in range(many)]
                    + [("named", serial, names[serial]) for serial in ordered])
        self.same(len(state_of(files(200)).names), 200)
        self.wrong(files(201))

    def test_what_follows_the_turned_records(self):
        more = (("drop", 1), ("view", 4), ("letgo", 1), ("drop", 1), ("copied",))
        state = followed(state_of(GOOD), *more[:3])
        self.assertEqual(state_of(GOOD + more[:3]), state)
        self.same(unowned(state), (1, 4))
        for record in (("drop", 4), ("copied",), ("view", 5), ("start", 2, 9, 4), ("region", 3), ("seen", 4), ("named", 1, 1)):
            self.wrong(GOOD + more[:3] + (record,))
            self.wrong(GOOD + more[:3] + (record,) + (("drop", 1),))
        self.assertEqual(state_of(GOOD + more[:4]), followed(state_of(GOOD), *more[:4]))
        self.wrong(GOOD + (("copied",),))
        self.wrong(GOOD + (("drop", 4),))
        self.wrong(GOOD + (("put", 1, 1),))
        self.wrong(GOOD + (("view", 3),))

    def test_what_is_passed_stays(self):
        records = [list(record) for record in GOOD]
        before = copy.deepcopy(records)
        state = state_of(records)
        self.same(records, before)
        records[1][1] = 5
        records.pop()
        self.same(records_of(state), GOOD)

    def test_long_books(self):
        rng = random.Random(4)
        state = first_state(3)
        records = list(records_of(state))
        while len(records) < 3000:
            numbers = [number for number in range(1, 27) if name_of(number) not in dict(state.names)]
            record = ("put", rng.choice(numbers), rng.randint(1, 60)) if numbers and rng.random() < 0.6 else None
            if state.copies:
                record = ("copied",)
            elif record is None or not numbers:
                record = ("drop", rng.choice(state.names)[1]) if state.names else ("view", state.begun)
                if record[0] == "view":
                    continue
            state = after(state, record)
            records.append(record)
        self.assertEqual(state_of(records), state)


if __name__ == "__main__":
    unittest.main()
