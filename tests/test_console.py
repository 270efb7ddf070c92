"""[66]: the console."""

import unittest

from makingruns import Runs
from patterndeeds import errors
from patterndeeds.codes import code_of
from patterndeeds.console import Console
from patterndeeds.errors import (
    DeedError, InvalidCommand, InvalidCount, InvalidIndex, InvalidPlace, InvalidWord, InvalidWorld, KindClash, NoBlock,
            NoProgram,
    NothingToUndo, NotReady, Refused, UnknownName, UnsoundProgram, Whole,
)
from patterndeeds.parser import program_of
from patterndeeds.printer import program_text
from patterndeeds.shortening import shortened
from slowbench import Wrong
from slowconsole import SlowConsole
from helper import MANY, VALUES, Case, Text, random_of

SOURCE = "$1 > 1 { s += $1; a[$2] = 1 } END { print s; print NR > \"o\" }"
TELLING = ["where", "show s", "show NR", "entry a x", "field 0", "field 2", "record", "output -", "output > o", "tree",
        "code", "least"]


class TestConsole(Case):

    def session(self, *lines):
        """A console and its answers."""
        console = Console()
        return console, [console.execute(line) for line in lines]

    def told(self, console):
        """All that a console tells, errors too."""
        found = []
        for line in TELLING:
            try:
                found.append(console.execute(line))
            except DeedError as error:
                found.append(type(error).__name__)
        return found

    def test_example(self):
        answers = self.session("program $1 > 1 { s += $1 } END { print s }", "start f 1\n5\n", "go 9", "where",
                "more 0 7", "whole 0",
                "run 99", "where", "output -", "back 3", "show s")[1]
        self.assertEqual(answers, ["ok", "ok", "6", "more 0", "ok", "ok", "5", "over 0", "12\n", "3", "12"])

    def test_telling(self):
        console, answers = self.session("program " + SOURCE, "input f 1 x\n2 y z\n", "mark 2", "run 9", "where",
                "go 2", "where",
                "show s", "show SUBSEP", "show NR", "entry a y", "entry a x", "entry a", "field 0", "field 1",
                "field 3", "field 4",
                "field 4002", "record", "output -", "output > o", "output | o")
        self.assertEqual(answers, ["ok", "ok", "ok", "4", "tick 2", "2", "tick 0", "2", "\t", "2", "1", "none", "none",
                "2 y z", "2", "z",
                "none", "none", "2 y z", "none", "none", "none"])
        self.assertEqual([console.execute(line) for line in ["go 9", "where", "output -", "output > o", "output | o",
                "record"]],
                ["4", "over 0", "2\n", "2\n", "none", "2 y z"])
        program = program_of(SOURCE)
        self.assertEqual(console.execute(command="tree"), program_text(program))
        self.assertEqual(console.execute("code"), " ".join(str(len(body[2])) for body in code_of(program)[3]))
        self.assertEqual(console.execute("least"),
                " ".join(str(len(body[2])) for body in shortened(code_of(program))[3]))
        self.assertEqual(self.session("program function f() { } { }", "code")[1][1].count(" "), 1)
        self.assertEqual(self.session("program BEGIN { x = 1 / 0 }", "go 5", "where")[1], ["ok", "2", "error divide 2"])
        self.assertEqual(self.session("program BEGIN { exit -3 }", "go 5", "where")[1], ["ok", "2", "over -3"])
        self.assertEqual(self.session("program", "where", "tree", "record", "field 0", "field 1", "code")[1],
                ["ok", "over 0", "", "", "", "none", "2"])

    def test_inputs(self):
        """New benches: no deeds but the marks, no blocks, the world as it is now."""
        console, answers = self.session("program { x = $0 } END { getline y < \"f\" }", "mark 2", "mark 1",
                "start m a\nb", "begin",
                "go 4", "more 0 c\n", "input n d e\n", "aside < f", "feed < f line", "close < f")
        self.assertEqual(answers, ["ok", "ok", "ok", "ok", "ok", "4", "ok", "ok", "ok", "ok", "ok"])
        self.raises(NoBlock, console.execute, "keep")
        self.assertEqual([console.execute(line) for line in ["undo", "undo", "undo", "undo"]], ["aside", "aside",
                "mark", "mark"])
        self.raises(NothingToUndo, console.execute, "undo")
        self.assertEqual([console.execute(line) for line in ["mark 2", "run 99", "show x", "run 99", "show x", "where",
                "whole 0", "run 99",
                "show x"]], ["ok", "2", "", "3", "a", "tick 2", "ok", "3", "bc"])
        for word, kind in [("start", "more 0"), ("input", "tick 2")]:
            console, answers = self.session("program { }  END { x }", word + " f", "go 1", "where")
            self.assertEqual(answers[3], kind)
        console = self.session("program { }", "aside | p x y")[0]
        self.raises(InvalidWorld, console.execute, "aside | p z")
        self.assertEqual(console.execute("aside < p"), "ok")
        self.raises(UnknownName, console.execute, "feed < q x")
        self.assertEqual(self.session("program { }", "mark 1", "program { }", "mark 1")[1], ["ok"] * 4)

    def test_texts(self):
        """TEXT is all that stands behind a word and one blank."""
        for command, line in [("input f  a  b ", " a  b "), ("input f", ""), ("input f ", ""), ("input f \t", "\t")]:
            self.assertEqual(self.session("program { x = $0 }", command, "go 9", "show x")[1][3], line)
        self.assertEqual(self.session("program  BEGIN { x = \"  \" } ", "go 9", "show x")[1][2], "  ")
        console = self.session("program BEGIN { a[\"\"] = 1; a[\" b\"] = 2; a[\"c d\"] = 3 }", "go 9")[0]
        self.assertEqual([console.execute(line) for line in ["entry a", "entry a ", "entry a  b", "entry a c d",
                "entry a c"]],
                ["1", "1", "2", "3", "none"])
        self.assertEqual(self.session("program", "start f|g x", "start > y", "start - z", "code")[1][:4], ["ok"] * 4)

    def test_commands_that_are_none(self):
        console = self.session("program " + SOURCE, "input f 1\n2\n", "aside < g x", "go 5")[0]
        before = self.told(console)
        wrong = ["", " ", "go", "go ", "go  1", "go 1 ", "go 01", "go 00", "go 1234567890", "go -1", "go +1", "go 1.0",
                "go one", "go 1 2",
                 " go 1", "Go 1", "goo 1", "go\t1", "go 1\n", "where ", "where 1", " where", "tree x", "begin ",
                 "keep 1", "undo 1", "record ",
                 "code 1", "least ", "show", "show ", "show  s", "show s ", "show s t", "entry", "entry ", "entry  a",
                 "field", "field 01",
                 "field x", "input", "input ", "input  f", "start", "start  x", "aside", "aside <", "aside < ",
                 "aside > f x", "aside <f x",
                 "aside <  f", "aside << f", "more", "more x", "more 01 x", "more  0", "whole", "whole 0 ",
                 "whole 0 x", "feed", "feed <",
                 "feed > f", "feed  < f", "close <", "close < ", "close < f ", "close < f x", "close > f", "mark",
                 "mark -1", "mark 1 ",
                 "unmark", "output", "output ", "output --", "output - ", "output  -", "output <", "output < f",
                 "output >", "output > ",
                 "output >> o", "output > o ", "output > o p", "output | ", "back", "back x", "run", "run 1 1",
                 "programs x", "program\tx",
                 "watch s", "go 1%", "go \r1", "show \u00e9", "feed"]
        for command in wrong + [value for value in VALUES] + [Text("where"), b"where", ["where"]]:
            self.raises(InvalidCommand, console.execute, command)
        self.assertEqual(self.told(console), before)
        for command in wrong:
            self.raises(InvalidCommand, Console().execute, command)

    def test_not_ready(self):
        for command in TELLING + ["input f x", "start f", "aside < f x", "more 0 x", "whole 0", "feed < f x",
                "close < f", "go 1", "go 0",
                "back 1", "run 1", "mark 1", "unmark 1", "begin", "keep", "drop", "undo"]:
            self.raises(NotReady, Console().execute, command)
        console = Console()
        self.raises(NoProgram, console.execute, "program {")
        self.raises(NotReady, console.execute, "where")

    def test_errors(self):
        console = self.session("program " + SOURCE, "input f 1\n2\n", "aside < g x", "mark 1", "go 5")[0]
        before = self.told(console)
        for command, error in [("program {", NoProgram), ("program 1.2.3", InvalidWord), ("program { break }",
                UnsoundProgram),
                ("program { x; x[1] }", KindClash), ("go 0", InvalidCount), ("run 0", InvalidCount), ("back 0",
                InvalidCount),
                ("back 6", Refused), ("mark 1", InvalidPlace), ("mark 99", InvalidPlace), ("unmark 2", InvalidPlace),
                ("more 0 x", Whole), ("whole 0", Whole), ("more 1 x", InvalidIndex), ("feed < f x", UnknownName),
                ("close | g", UnknownName),
                ("aside < g", InvalidWorld), ("keep", NoBlock), ("drop", NoBlock), ("show a", UnknownName), ("show q",
                UnknownName),
                ("entry s x", UnknownName)]:
            self.raises(error, console.execute, command)
            self.assertEqual(self.told(console), before, command)
        self.assertEqual([console.execute(line) for line in ["undo", "undo"]], ["go", "mark"])
        self.raises(NothingToUndo, console.execute, "undo")

    def command(self, random, maker):
        name = random.choice(["f", "g", "x", "y", "a", "NR", "o", ""])
        number = random.choice(["0", "1", "1", "2", "3", "5", "12", "01", "", "x", "999999999"])
        kind = random.choice(["<", "<", "|", "|", ">", ""])
        text = random.choice(["", "", " ", " a", " b\n", " 1 2\n", " a b\n\nc"])
        word = random.choice(["input", "start", "aside", "more", "more", "whole", "feed", "close", "go", "go", "run",
                "run", "back", "mark",
                              "unmark", "begin", "keep", "drop", "undo", "undo", "where", "show", "entry", "field",
                              "record", "output", "tree",
                              "code", "least"])
        if word in ("go", "run") and number == "999999999":
            # A run may go on without an end.
            number = "30"
        if random.random() < 0.02:
            return random.choice(["program %s" % program_text(maker.program(3)), "program {", "program"])
        tails = {"input": " " + name + text, "start": " " + name + text, "aside": " %s %s%s" % (kind, name, text),
                 "more": " " + number + text, "feed": " %s %s%s" % (kind, name, text), "close": " %s %s" % (kind, name),
                 "show": " " + name, "entry": " " + name + text, "output": random.choice([" -", " %s %s" % (kind,
                 name)])}
        tail = tails.get(word, " " + number if word in ("whole", "go", "run", "back", "mark", "unmark",
                "field") else "")
        return word + tail + random.choice([""] * 30 + [" ", "x"])

    def test_sessions(self):
        random = random_of("console")
        maker = Runs(random)
        answers = set()
        for _ in range(150 * MANY):
            console, slow = Console(), SlowConsole()
            commands = ["program " + program_text(maker.program(random.choice([2, 3, 4]))), "start m 1 2\na b"]
            commands += [self.command(random, maker) for _ in range(40)]
            for command in commands:
                if slow.bench is not None and len(slow.bench.state()[1][0]) > 4 and command[:2] in ("in", "st"):
                    continue
                try:
                    wanted = slow.execute(command)
                except Wrong as wrong:
                    error = getattr(errors, wrong.args[0], None)
                    if error is not None:
                        self.raises(error, console.execute, command)
                    answers.add(wrong.args[0])
                    continue
                self.assertEqual(console.execute(command), wanted, (command, commands))
        self.assertGreater(len(answers), 10)


if __name__ == "__main__":
    unittest.main()
