"""Points 15 to 19 for one program of some size: what each function answers, or how it fails."""

import copy
import time
import unittest

from patterndeeds import calls, kinds, names, renaming
from patterndeeds.errors import KindClash
from patterndeeds.parser import program_of
from helper import Case

LONG = "e3MOPVkQnL_pApFLQReOtAshslVEOwVLsFDa"
SOURCE = """{
  printf text[sub(END4, END4, w1[call])] @= getline call[$1, END4] < $1, length(LONG), -split($1, w1, FS)
}
LONG[NR in call] {
  delete call
  delete w1[substr(/[0-9]/, text / /a/, call && "1"), w1 && gsub(1, 3.5, NF)]
  exit
}
END {
  delete text[main((NR, $1) in LONG, call, w1)]
}
function NF6(f) {
  for (; call[1 in w1, getline]; RSTART ? 3.5 | getline : "b c") {
    printf split(/[0-9]/ ? "" : "x,y", f), match(length(f), sub(/a/, 1)), substr(w1 !~ "x,y", getline LONG, length($1))
  }
}
function main(LONG, END4, v11) {
  v11
  delete LONG
}
""".replace("LONG", LONG)
PROGRAM = program_of(SOURCE)
PLAIN = """{
  printf v1[sub(v2, v2, v3[v4])] @= getline v4[$1, v2] < $1, length(v5), -split($1, v3, FS)
}
v5[NR in v4] {
  delete v4
  delete v3[substr(/[0-9]/, v1 / /a/, v4 && "1"), v3 && gsub(1, 3.5, NF)]
  exit
}
END {
  delete v1[f2((NR, $1) in v5, v4, v3)]
}
function f1(p1) {
  for (; v4[1 in v3, getline]; RSTART ? 3.5 | getline : "b c") {
    printf split(/[0-9]/ ? "" : "x,y", p1), match(length(p1), sub(/a/, 1)), substr(v3 !~ "x,y", getline v5, length($1))
  }
}
function f2(p1, p2, p3) {
  p3
  delete p1
}
"""
SPECIALS = ["FILENAME", "FNR", "FS", "NF", "NR", "OFS", "ORS", "RLENGTH", "RS", "RSTART", "SUBSEP"]
ARRAYS = [(2, "call"), (2, "text"), (2, "w1"), (3, "call"), (3, LONG), (4, "call"), (5, "w1"), (8, LONG), (8, "text"),
          (9, "call"), (9, "w1")]
VALUES = [(2, "END4"), (2, "FS"), (2, "call"), (3, "NR"), (5, "NF"), (5, "call"), (5, "text"), (5, "w1"), (8, "NR"),
          (10, "RSTART"), (11, LONG), (11, "w1")] + [(0, name) for name in SPECIALS]
OTHERS = [(2, ("", LONG), "open"), (8, ("main", LONG), "value"), (11, ("NF6", "f"), "array"),
          (11, ("NF6", "f"), "open"), (12, ("main", "v11"), "value"), (13, ("main", LONG), "array")]
TIED = {"call": ("main", "END4"), "w1": ("main", "v11")}
HEADS = [("NF6", "f"), ("main", "END4"), ("main", LONG), ("main", "v11")]


class TestOneProgram(Case):

    def test_uses_and_links(self):
        uses = [(place, ("", name), "array") for place, name in ARRAYS]
        uses += [(place, ("", name), "value") for place, name in VALUES] + OTHERS
        self.assertEqual(kinds.uses(PROGRAM), sorted(uses))
        self.assertEqual(kinds.links(PROGRAM), [(8, ("", "call"), ("main", "END4")), (8, ("", "w1"), ("main", "v11"))])
        self.assertEqual(calls.calls(PROGRAM), [("", "main")])

    def test_tied(self):
        alone = [[slot] for slot in [("", name) for name in SPECIALS + ["END4", LONG, "text"]] + HEADS[:1] + HEADS[2:3]]
        both = [[("", name), slot] for name, slot in TIED.items()]
        self.assertEqual(kinds.tied(PROGRAM), sorted(alone + both))

    def test_clashes(self):
        self.assertEqual(names.faults(PROGRAM), [])
        self.assertIs(kinds.is_sound(PROGRAM), False)
        self.assertEqual(kinds.clash_chain(PROGRAM), [("", "call")])
        for action in [kinds.slot_kinds, kinds.scalars, kinds.arrays, lambda one: kinds.parameter_kinds(one, "main")]:
            self.raises_with(KindClash, "chain", [("", "call")], action, PROGRAM)

    def test_is_clash_chain(self):
        for chain, holds in [([("", "x")], False), ([("", "call")], True), ([("", "text")], True), ([("", "w1")], True),
                ([("", LONG)], True), ([("main", LONG)], True), ([("NF6", "f")], False), ([("", "END4")], False),
                ([("", "w1"), ("main", "v11")], True), ([("main", "v11"), ("", "w1")], False),
                ([("", "call"), ("main", "END4")], False), ([("main", "END4"), ("", "call")], False),
                ([("", "call"), ("main", "END4"), ("", "call")], True), ([("", "call"), ("", "call")], False),
                ([], False)]:
            self.assertIs(kinds.is_clash_chain(PROGRAM, chain), holds, chain)

    def test_renaming(self):
        self.assertEqual(renaming.plain(PROGRAM), program_of(PLAIN))
        self.assertEqual(renaming.renamed(PROGRAM, [("main", "other")]),
                         program_of(SOURCE.replace("main(", "other(")))
        head = renaming.renamed_head(PROGRAM, "main", ("a", "b", "c"))
        parts = SOURCE.partition("function main")
        changed = parts[2].replace(LONG, "a").replace("END4", "b").replace("v11", "c")
        self.assertEqual(head, program_of(parts[0] + parts[1] + changed))
        slots = HEADS + [("", name) for name in ["END4", "NF6", "call", LONG, "main", "text", "w1"]]
        self.assertEqual(renaming.likeness(PROGRAM, PROGRAM), sorted((slot, slot) for slot in slots))

    def test_time(self):
        """The time is held against that of copies of the program, so that no machine is too slow."""
        self.assertLess(least_time(all_answers), 2 * least_time(ten_copies))


def all_answers():
    for action in [kinds.uses, kinds.links, kinds.clash_chain, kinds.is_sound, names.faults, renaming.plain]:
        action(PROGRAM)
    kinds.is_clash_chain(PROGRAM, [("", "x")])
    renaming.renamed(PROGRAM, [("main", "other")])
    renaming.likeness(PROGRAM, PROGRAM)


def ten_copies():
    for _ in range(10):
        copy.deepcopy(PROGRAM)


def least_time(action):
    """The least time that an action takes, of many."""
    times = []
    for _ in range(60):
        begun = time.process_time()
        action()
        times.append(time.process_time() - begun)
    return min(times)


if __name__ == "__main__":
    unittest.main()
