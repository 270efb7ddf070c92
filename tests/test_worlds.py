"""[38], [39]: worlds."""

import unittest

from patterndeeds.errors import InvalidIndex, InvalidWorld, Whole
from patterndeeds.worlds import cut_world, has_more, is_world, with_aside, with_main
from helper import VALUES, Case, Number, Row, Text, exchanged, leaf_paths, random_of

EMPTY = ((), ())
WORLD = ((("f", "ab", False), ("g", "", True), ("f", "\n\t", False)),
         (("<", "", "x", True), ("<", "f", "", False), ("|", "f", "y", False)))


def names(world):
    return [row[:-2] for part in world for row in part]


def has_more_slowly(world, other):
    """Whether each input has more than the other world's."""
    if names(world) != names(other) or len(world[0]) != len(other[0]):
        return False
    for row, less in zip(world[0] + world[1], other[0] + other[1]):
        if less[-1] and row != less or row[-2][:len(less[-2])] != less[-2]:
            return False
    return True


class TestIsWorld(Case):

    def test_worlds(self):
        for value in [EMPTY, WORLD, ((("", "", True),), ()), ((), (("|", "", "", False),)),
                ((("f", "a", True),) * 6, ()),
                      ((), (("<", "a", "", True), ("<", "b", "", True), ("|", "a", "", True)))]:
            self.assertIs(is_world(value), True, value)

    def test_others(self):
        main, aside = ("f", "a", True), ("<", "f", "a", True)
        for value in [one for one in VALUES if one != EMPTY] + [list(WORLD), Row(WORLD), (WORLD[0],), WORLD + ((),),
                ([main], ()), ((main,), []), ((main,), None), (main, ()), ((aside,), ()), ((), (main,)),
                ((list(main),), ()),
                ((Row(main),), ()), ((main[:2],), ()), ((main + (1,),), ()), ((("%", "a", True),), ()),
                ((("f", "\r", True),), ()),
                (((None, "a", True),), ()), ((("f", None, True),), ()), ((("f", "a", 1),), ()),
                ((("f", "a", None),), ()),
                (((Text("f"), "a", True),), ()), ((), (aside, aside)),
                ((), (("<", "f", "b", True), ("<", "f", "a", False))),
                ((), (("|", "a", "", True), ("<", "b", "", True))), ((), (("<", "b", "", True), ("<", "a", "", True))),
                ((), ((">", "f", "a", True),)), ((), (("", "f", "a", True),)), ((), ((None, "f", "a", True),)),
                ((), ((Text("<"), "f", "a", True),)), ((), (("<", "f", "a", 0),)), ((), (("<", "f", "a"),)),
                ((), (list(aside),))]:
            self.assertIs(is_world(value), False, value)

    def test_one_part_exchanged(self):
        for path in leaf_paths(WORLD):
            for worth in [None, True, "", "a", "%", 1, (), [], ("f", "a", True), ("<", "zz", "a", True),
                    ("<", "f", "", False)]:
                value = exchanged(WORLD, path, worth)
                found = is_world(value)
                self.assertIs(type(found), bool)
                if found:
                    self.assertEqual(tuple(sorted(value[1])), value[1])
                    self.assertEqual(len({row[:2] for row in value[1]}), len(value[1]))

    def test_all_signs(self):
        for code in range(0, 256):
            holds = code in (9, 10) or 32 <= code < 127 and code != 37
            self.assertIs(is_world((((chr(code), "", True),), ())), holds)
            self.assertIs(is_world(((("", "a" + chr(code), True),), ())), holds)


class TestMore(Case):

    def test_has_more(self):
        for one, other, holds in [(EMPTY, EMPTY, True), (WORLD, WORLD, True),
                (((("f", "ab", False),), ()), ((("f", "a", False),), ()), True),
                (((("f", "a", True),), ()), ((("f", "a", False),), ()), True),
                (((("f", "ab", True),), ()), ((("f", "a", False),), ()), True),
                (((("f", "a", False),), ()), ((("f", "ab", False),), ()), False),
                (((("f", "a", False),), ()), ((("f", "a", True),), ()), False),
                (((("f", "ab", True),), ()), ((("f", "a", True),), ()), False),
                (((("f", "bb", False),), ()), ((("f", "a", False),), ()), False),
                (((("g", "a", False),), ()), ((("f", "a", False),), ()), False),
                (((("f", "", False),), ()), EMPTY, False), (EMPTY, ((("f", "", False),), ()), False),
                (((), (("<", "f", "", False),)), EMPTY, False),
                (((), (("<", "f", "b", True),)), ((), (("<", "f", "", False),)), True),
                (((), (("|", "f", "", False),)), ((), (("<", "f", "", False),)), False),
                (((("f", "", True), ("f", "", False)), ()), ((("f", "", False), ("f", "", True)), ()), False)]:
            self.assertIs(has_more(one, other), holds, (one, other))

    def test_against_the_slow_way(self):
        random = random_of("worlds")
        rows = []
        for _ in range(120):
            mains = tuple((random.choice("ff")[:1], "ab"[:random.randrange(3)],
                    random.random() < 0.4) for _ in range(random.choice([1, 1, 2])))
            asides = tuple((kind, "f", "ab"[:random.randrange(3)],
                    random.random() < 0.4) for kind in random.choice(["", "<", "<|"]))
            rows.append((mains, asides))
        counts = {True: 0, False: 0}
        for one in rows:
            for other in rows:
                found = has_more(one, other)
                self.assertIs(found, has_more_slowly(one, other), (one, other))
                counts[found] += 1
        self.assertGreater(min(counts.values()), 300)

    def test_invalid(self):
        for value in [one for one in VALUES if one != EMPTY]:
            self.raises(InvalidWorld, has_more, value, EMPTY)
            self.raises(InvalidWorld, has_more, EMPTY, value)
            self.raises(InvalidWorld, with_main, value, None, "", True)
            self.raises(InvalidWorld, with_aside, value, "<", "f", "", True)
            self.raises(InvalidWorld, cut_world, value, [])

    def test_with_main(self):
        mains, asides = WORLD
        self.assertEqual(with_main(WORLD, 0, "c", False), ((("f", "abc", False),) + mains[1:], asides))
        self.assertEqual(with_main(WORLD, 0, "", True), ((("f", "ab", True),) + mains[1:], asides))
        self.assertEqual(with_main(WORLD, 0, "", False), WORLD)
        self.assertEqual(with_main(WORLD, 2, "x", True), (mains[:2] + (("f", "\n\tx", True),), asides))
        self.raises(Whole, with_main, WORLD, 1, "", True)
        self.raises(Whole, with_main, WORLD, 1, "", False)
        for index in [-1, 3, 10 ** 80, True, False, None, "0", 0.0, (), Number(0)]:
            self.raises(InvalidIndex, with_main, WORLD, index, "c", True)
        self.raises(InvalidIndex, with_main, EMPTY, 0, "c", True)

    def test_with_aside(self):
        mains, asides = WORLD
        self.assertEqual(with_aside(WORLD, "<", "f", "c", True), (mains, (asides[0], ("<", "f", "c", True), asides[2])))
        self.assertEqual(with_aside(WORLD, "|", "f", "", False), WORLD)
        self.assertEqual(with_aside(WORLD, "|", "f", "z", False), (mains, asides[:2] + (("|", "f", "yz", False),)))
        self.assertEqual(with_aside(EMPTY, "|", "p", "c", True), ((), (("|", "p", "c", True),)))
        for kind, name, at in [("<", "a", 1), ("<", "g", 2), ("|", "", 2), ("|", "g", 3)]:
            made = with_aside(WORLD, kind, name, "q", False)
            self.assertEqual(made, (mains, asides[:at] + ((kind, name, "q", False),) + asides[at:]))
            self.assertIs(is_world(made), True)
            self.assertIs(has_more(made, WORLD), False)
        self.raises(Whole, with_aside, WORLD, "<", "", "c", True)
        self.raises(Whole, with_aside, WORLD, "<", "", "", False)

    def test_more_has_more(self):
        for index in (0, 2):
            for text in ["", "c"]:
                for whole in [True, False]:
                    self.assertIs(has_more(with_main(WORLD, index, text, whole), WORLD), True)
                    self.assertIs(has_more(with_aside(WORLD, "<", "f", text, whole), WORLD), True)

    def test_cut_world(self):
        world = ((("f", "abc", True), ("g", "abc", False), ("h", "", True)), (("<", "x", "y", True),))
        for numbers, told in [([0, 0, 0], [("", False), ("", False), ("", True)]),
                ([2, 2, 5], [("ab", False), ("ab", False), ("", True)]),
                              ([3, 3, 0], [("abc", True), ("abc", False), ("", True)]),
                              ([9, 10 ** 80, 1], [("abc", True), ("abc", False), ("", True)])]:
            kept = list(numbers)
            wanted = tuple((name,) + row for name, row in zip("fgh", told))
            self.assertEqual(cut_world(world, numbers), (wanted, world[1]))
            self.assertEqual(numbers, kept)
            self.assertIs(has_more(world, cut_world(world, numbers)), True)
        self.assertEqual(cut_world(EMPTY, []), EMPTY)


if __name__ == "__main__":
    unittest.main()
