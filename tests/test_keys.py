"""Points 43 to 45."""

import itertools
import random
import unittest

from neverhappens.keys import is_key, number_key

FLAG = ("flag",)
LEAF, NODE = ("ref", "leaf"), ("ref", "node")

# No program that is checked has rings, but records are numbered all the same if there are some.
PROGRAM = (
    (
        ("leaf", (("f", FLAG), ("n", ("num", -1, 3)))),
        ("node", (("left", NODE), ("n", ("num", 0, 7)), ("leaf", LEAF), ("right", NODE))),
        ("none", ()),
    ),
    (), (), (("main", (), None, (), ()),),
)


def leaf(number=0, flag=False):
    return ("leaf", True, (flag, number))


def node(left=None, right=None, other=None, number=0):
    return ("node", True, (left, number, other, right))


GONE = ("node", False, ())


def slow_number_key(kinds, values, records, fixed):
    """The words of point 44 once more, by functions that call themselves."""
    field_kinds = {name: [kind for _, kind in fields] for name, fields in PROGRAM[0]}
    order = []

    def references(kinds_of_values, found):
        return [value for kind, value in zip(kinds_of_values, found)
                if kind[0] == "ref" and value is not None]

    def visit_fields(index):
        name, live, fields = records[index]
        for found in references(field_kinds[name], fields) if live else []:
            visit(found)

    def visit(index):
        if index not in order:
            order.append(index)
            visit_fields(index)

    order.extend(fixed)
    for index in fixed:
        visit_fields(index)
    for index in references(kinds, values):
        visit(index)

    def moved(kinds_of_values, found):
        return tuple(order.index(value) if kind[0] == "ref" and value is not None else value
                     for kind, value in zip(kinds_of_values, found))

    kept = []
    for index in order:
        name, live, fields = records[index]
        kept.append((name, live, moved(field_kinds[name], fields) if live else ()))
    return (moved(kinds, values), tuple(kept)), tuple(order)


def chance_records(chance, count):
    """Records of all kinds that refer to each other."""
    names = [chance.choice(["leaf", "node", "node", "none"]) for _ in range(count)]

    def some(name):
        found = [at for at in range(count) if names[at] == name]
        return chance.choice([None, *found, *found])

    records = []
    for name in names:
        if chance.random() < 0.2:
            records.append((name, False, ()))
        elif name == "none":
            records.append(("none", True, ()))
        elif name == "leaf":
            records.append(leaf(chance.randrange(-1, 4), chance.random() < 0.5))
        else:
            records.append(node(some("node"), some("node"), some("leaf"), chance.randrange(8)))
    return tuple(records), some


class TestNumberKey(unittest.TestCase):
    def check(self, kinds, values, records, fixed, key, order):
        found = number_key(PROGRAM, kinds, values, records, fixed)
        self.assertEqual(repr(found), repr((key, order)))
        self.assertEqual(found, slow_number_key(kinds, values, records, fixed))

    def test_nothing(self):
        self.check((), (), (), (), ((), ()), ())
        self.check((FLAG, ("num", 0, 7), NODE), (True, 5, None), (), (), ((True, 5, None), ()), ())

    def test_values_that_are_no_references(self):
        # The 1 is a number, not the record with this number.
        kinds = (("num", 0, 7), FLAG)
        self.check(kinds, (1, True), (leaf(), leaf()), (), ((1, True), ()), ())

    def test_records_nobody_refers_to(self):
        records = (leaf(1), leaf(2), leaf(3))
        self.check((LEAF,), (1,), records, (), ((0,), (leaf(2),)), (1,))
        self.check((LEAF, LEAF), (2, 0), records, (), ((0, 1), (leaf(3), leaf(1))), (2, 0))
        self.check((LEAF, LEAF), (2, 2), records, (), ((0, 0), (leaf(3),)), (2,))
        self.check((LEAF,), (None,), records, (), ((None,), ()), ())

    def test_fixed_records(self):
        records = (leaf(1), leaf(2), leaf(3))
        self.check((), (), records, (2, 0), ((), (leaf(3), leaf(1))), (2, 0))
        self.check((LEAF,), (1,), records, (2,), ((1,), (leaf(3), leaf(2))), (2, 1))
        self.check((LEAF,), (2,), records, (2,), ((0,), (leaf(3),)), (2,))
        self.check((LEAF,), (None,), records, (1,), ((None,), (leaf(2),)), (1,))

    def test_fields_in_order_and_directly_behind(self):
        # 0 refers to 1 and 4; 1 to 3 and 2; all that is found by way of 1 comes before 4.
        records = (node(1, 4), node(3, 2), node(number=2), node(number=3), node(number=4))
        self.check((NODE,), (0,), records, (), ((0,), (
            node(1, 4), node(2, 3), node(number=3), node(number=2), node(number=4),
        )), (0, 1, 3, 2, 4))

    def test_values_in_order(self):
        records = (node(2), leaf(1), node(other=1), node(3))
        self.check((LEAF, NODE, NODE), (1, 3, 0), records, (),
                   ((0, 1, 2), (leaf(1), node(1), node(3), node(other=0))), (1, 3, 0, 2))

    def test_fixed_ones_all_before_their_fields(self):
        # 0 refers to 3 and 1 to 2: both are fixed, so 0 and 1 come first, then 3 and 2.
        records = (node(3), node(2), node(number=2), node(number=3))
        self.check((), (), records, (0, 1), ((), (
            node(2), node(3), node(number=3), node(number=2),
        )), (0, 1, 3, 2))
        self.check((), (), records, (1, 0), ((), (
            node(2), node(3), node(number=2), node(number=3),
        )), (1, 0, 2, 3))

    def test_fields_of_fixed_ones_before_values(self):
        records = (node(1), node(number=1), node(number=2))
        self.check((NODE, NODE), (2, 1), records, (0,), ((2, 1), (
            node(1), node(number=1), node(number=2),
        )), (0, 1, 2))

    def test_what_a_field_of_a_fixed_one_refers_to_comes_at_once(self):
        # 0 refers to 2 and 3, and 2 to 4; 4 comes before 3, and 5, to which 1 refers, at last.
        records = (node(2, 3), node(5), node(4), node(number=3), node(number=4), node(number=5))
        self.check((), (), records, (0, 1), ((), (
            node(2, 4), node(5), node(3), node(number=4), node(number=3), node(number=5),
        )), (0, 1, 2, 4, 3, 5))

    def test_rings(self):
        self.check((NODE,), (1,), (node(1, number=5), node(0)), (), ((0,), (node(1), node(0, number=5))), (1, 0))
        self.check((NODE,), (0,), (node(0, 0),), (), ((0,), (node(0, 0),)), (0,))
        self.check((NODE,), (1,), (leaf(), node(1, 1, 0)), (), ((0,), (node(0, 0, 1), leaf())), (1, 0))
        self.check((), (), (node(1), node(2), node(0)), (2,), ((), (node(1), node(2), node(0))), (2, 0, 1))

    def test_gone_records(self):
        records = (GONE, node(0, number=1), ("leaf", False, ()))
        self.check((NODE,), (0,), records, (), ((0,), (GONE,)), (0,))
        self.check((NODE, LEAF), (1, 2), records, (), ((0, 2), (
            node(1, number=1), GONE, ("leaf", False, ()),
        )), (1, 0, 2))
        self.check((), (), records, (0,), ((), (GONE,)), (0,))

    def test_numbers_in_fields_are_no_references(self):
        self.check((NODE,), (1,), (leaf(), node(number=1)), (), ((0,), (node(number=1),)), (1,))

    def test_records_without_fields(self):
        self.check((("ref", "none"),), (1,), (leaf(), ("none", True, ())), (),
                   ((0,), (("none", True, ()),)), (1,))

    def test_long_chains(self):
        count = 5000
        records = tuple(node(at + 1 if at + 1 < count else None) for at in range(count))
        key, order = number_key(PROGRAM, (NODE,), (0,), records, ())
        self.assertEqual((key, order), (((0,), records), tuple(range(count))))
        self.assertIs(is_key(PROGRAM, (NODE,), key, 0), True)

    def test_by_chance(self):
        chance = random.Random(1)
        for _ in range(800):
            count = chance.randrange(7)
            records, some = chance_records(chance, count)
            kinds = tuple(chance.choice([FLAG, LEAF, NODE, NODE, ("num", 0, 7)]) for _ in range(3))
            values = tuple(some(kind[1]) if kind[0] == "ref" else chance.random() < 0.5
                           if kind == FLAG else chance.randrange(8) for kind in kinds)
            fixed = tuple(chance.sample(range(count), chance.randrange(count + 1)))
            found = number_key(PROGRAM, kinds, values, records, fixed)
            self.assertEqual(repr(found), repr(slow_number_key(kinds, values, records, fixed)))
            key, order = found
            self.assertEqual(order[:len(fixed)], fixed)
            # A key is numbered as it would be again, also with all of it fixed.
            for again in (len(fixed), len(order)):
                again_key, again_order = number_key(PROGRAM, kinds, *key, tuple(range(again)))
                self.assertEqual((again_key, again_order), (key, tuple(range(len(order)))))
            self.assertIs(is_key(PROGRAM, kinds, key, len(fixed)), True)

    def test_states_that_are_alike_have_the_same_key(self):
        chance = random.Random(2)
        for _ in range(300):
            count = chance.randrange(1, 6)
            records, some = chance_records(chance, count)
            kinds = (NODE, LEAF, NODE)
            values = tuple(some(kind[1]) for kind in kinds)
            fixed = tuple(range(chance.randrange(count + 1)))
            places = list(range(count))
            chance.shuffle(places)
            shuffled = [None] * count
            for at, record in enumerate(records):
                name, live, fields = record
                if name == "node" and live:
                    left, number, other, right = fields
                    fields = tuple(value if at == 1 or value is None else places[value]
                                   for at, value in enumerate((left, number, other, right)))
                shuffled[places[at]] = (name, live, fields)
            other_values = tuple(None if value is None else places[value] for value in values)
            one, order = number_key(PROGRAM, kinds, values, records, fixed)
            two, other_order = number_key(
                PROGRAM, kinds, other_values, tuple(shuffled), tuple(places[at] for at in fixed))
            self.assertEqual(one, two)
            self.assertEqual(tuple(places[at] for at in order), other_order)


class TestIsKey(unittest.TestCase):
    kinds = (FLAG, ("num", 0, 7), LEAF, NODE)
    # The leaf is referred to first by the values, so that it comes first.
    values = (True, 3, 0, 1)
    records = (leaf(2, True), node(None, None, 0, 5))

    def told(self, values=None, records=None, fixed=0, kinds=None):
        key = (self.values if values is None else values, self.records if records is None else records)
        return is_key(PROGRAM, self.kinds if kinds is None else kinds, key, fixed)

    def test_keys(self):
        self.assertIs(self.told(), True)
        self.assertIs(is_key(PROGRAM, (), ((), ()), 0), True)
        self.assertIs(self.told((False, 0, None, None), ()), True)
        self.assertIs(self.told((False, 7, None, 0), (GONE,)), True)
        self.assertIs(self.told((False, 0, 0, None), (("leaf", False, ()),)), True)
        self.assertIs(self.told((False, 0, None, 0), (node(0, 0),)), True)
        self.assertIs(self.told((False, 0, None, 0), (node(1), node(1))), True)

    def test_no_pair(self):
        for key in (None, True, 3, "key", (), ((),), ((), (), ()), "ab", ((), 3), (3, ()), (None, None),
                    ("", ()), ((), ""), [(), ()], ([], ()), ((), [])):
            self.assertIs(is_key(PROGRAM, (), key, 0), False, key)

    def test_number_of_values(self):
        self.assertIs(self.told((True, 3, 0)), False)
        self.assertIs(self.told((True, 3, 0, 1, 1)), False)
        self.assertIs(self.told((), ()), False)
        self.assertIs(is_key(PROGRAM, (), ((3,), ()), 0), False)

    def test_values_of_wrong_kinds(self):
        wrong = {
            0: (None, 0, 1, "", "true", (), (True,), -1),
            1: (None, True, False, "3", (), (3,), -1, 8, 10 ** 30),
            2: (True, False, "0", (), (0,), -1, 2, 10 ** 30),
            3: (True, False, "1", (), (1,), -1, 2, 10 ** 30),
        }
        for at, found in wrong.items():
            for value in found:
                values = (*self.values[:at], value, *self.values[at + 1:])
                self.assertIs(self.told(values), False, (at, value))
        # The record is of another record kind.
        self.assertIs(self.told((True, 3, 1, 0), (node(None, None, 1), leaf())), False)
        self.assertIs(self.told((True, 3, 0, None), (node(),)), False)
        # False and True are not 0 and 1, and 0 and 1 not False and True.
        self.assertIs(self.told((1, 3, 0, 1)), False)
        self.assertIs(self.told((True, 3, False, 1)), False)
        self.assertIs(self.told((True, 3, 0, True)), False)

    def test_lists_in_the_place_of_tuples(self):
        self.assertIs(is_key(PROGRAM, self.kinds, [self.values, self.records], 0), False)
        self.assertIs(self.told(list(self.values)), False)
        self.assertIs(self.told(None, list(self.records)), False)
        self.assertIs(self.told(None, (list(self.records[0]), self.records[1])), False)
        self.assertIs(self.told(None, (("leaf", True, [True, 2]), self.records[1])), False)
        self.assertIs(self.told((False, 0, None, 0), (("node", False, []),)), False)
        self.assertIs(self.told(((True,), 3, 0, 1)), False)
        self.assertIs(self.told((True, [3], 0, 1)), False)
        self.assertIs(self.told(None, ((["leaf"], True, (True, 2)), self.records[1])), False)

    def test_forms_of_records(self):
        good = self.records[1]
        for record in (None, 3, True, "leaf", (), ("leaf",), ("leaf", True), ("leaf", True, (True, 2), ()),
                       (None, True, (True, 2)), ("door", True, (True, 2)), ("", True, (True, 2)),
                       (("leaf",), True, (True, 2)), (3, True, (True, 2)), (True, True, (True, 2)),
                       ("leaf", 1, (True, 2)), ("leaf", None, (True, 2)), ("leaf", "true", (True, 2)),
                       ("leaf", False, (True, 2)), ("leaf", 0, ()), ("leaf", None, ()),
                       ("leaf", True, ()), ("leaf", True, (True,)), ("leaf", True, (True, 2, 0)),
                       ("leaf", True, None), ("leaf", False, None), ("leaf", False, ""),
                       ("leaf", True, "ab"), ("leaf", True, 2), ("leaf", False, 0)):
            self.assertIs(self.told(None, (record, good)), False, record)

    def test_values_of_fields(self):
        good = self.records[1]
        for fields in ((0, 2), (None, 2), ("f", 2), (True, True), (True, None), (True, "2"), (True, -2),
                       (True, 4), (True, (2,)), ((), 2)):
            self.assertIs(self.told(None, (("leaf", True, fields), good)), False, fields)
        for left in (True, False, 2, -1, 0, "", (), (1,)):
            record = ("node", True, (left, 5, 0, None))
            self.assertIs(self.told(None, (leaf(2, True), record)), False, left)
        self.assertIs(self.told(None, (leaf(2, True), node(1, 1, 0, 5))), True)
        self.assertIs(self.told(None, (leaf(2, True), node(1, None, 1, 5))), False)
        self.assertIs(self.told(None, (leaf(2, True), node(1, None, False, 5))), False)

    def test_numbered_otherwise(self):
        # The node first and the leaf behind it, though the leaf is referred to first.
        self.assertIs(self.told((True, 3, 1, 0), (node(None, None, 1, 5), leaf(2, True))), False)
        # A record that nobody refers to.
        self.assertIs(self.told((True, 3, None, None), (leaf(),)), False)
        self.assertIs(self.told(None, (*self.records, leaf())), False)
        self.assertIs(self.told((True, 3, None, 0), (GONE, GONE)), False)
        self.assertIs(self.told((True, 3, None, 0), (node(2, 1), node(), node())), False)
        self.assertIs(self.told((True, 3, None, 0), (node(1, 2), node(), node())), True)

    def test_fixed(self):
        # With the node and the leaf as fixed ones nothing else tells their order.
        turned = ((True, 3, 1, 0), (node(None, None, 1, 5), leaf(2, True)))
        for fixed, wanted in ((0, False), (1, True), (2, True), (3, False), (100, False)):
            self.assertIs(self.told(*turned, fixed), wanted, fixed)
        for fixed, wanted in ((0, True), (1, True), (2, True), (3, False)):
            self.assertIs(self.told(fixed=fixed), wanted, fixed)
        alone = ((True, 3, None, None), (leaf(), leaf(1), GONE))
        for fixed, wanted in ((0, False), (1, False), (2, False), (3, True), (4, False)):
            self.assertIs(self.told(*alone, fixed), wanted, fixed)
        # A fixed record's fields come before the values.
        for records, wanted in (((node(1), node(), node()), True), ((node(2), node(), node()), False)):
            self.assertIs(is_key(PROGRAM, (NODE, NODE), ((1, 2), records), 1), wanted)
        self.assertIs(is_key(PROGRAM, (), ((), ()), 1), False)

    def test_only_one_numbering_is_a_key(self):
        chance = random.Random(3)
        for _ in range(100):
            count = chance.randrange(1, 5)
            records, some = chance_records(chance, count)
            kinds = (NODE, LEAF, NODE)
            fixed = tuple(range(chance.randrange(count)))
            key, order = number_key(PROGRAM, kinds, tuple(some(kind[1]) for kind in kinds), records, fixed)
            rest = range(len(fixed), len(order))
            found = set()
            for places in itertools.permutations(rest):
                numbers = [*fixed, *places]
                other = self.moved(key, numbers)
                if is_key(PROGRAM, kinds, other, len(fixed)):
                    found.add(other)
            self.assertEqual(found, {key})

    def moved(self, key, numbers):
        """The key with other numbers of its records."""
        values, records = key

        def new(value):
            return None if value is None else numbers[value]

        moved = [None] * len(records)
        for at, (name, live, fields) in enumerate(records):
            if name == "node" and live:
                left, number, other, right = fields
                fields = (new(left), number, new(other), new(right))
            moved[numbers[at]] = (name, live, fields)
        return tuple(new(value) for value in values), tuple(moved)

    def test_deep_values(self):
        deep = ()
        for _ in range(20):
            deep = (deep,)
        for key in (deep, (deep, deep), ((deep,), ()), ((), (deep,)), ((), (("leaf", True, deep),))):
            self.assertIs(is_key(PROGRAM, (FLAG,), key, 0), False)
            self.assertIs(is_key(PROGRAM, (NODE,), key, 0), False)


if __name__ == "__main__":
    unittest.main()
