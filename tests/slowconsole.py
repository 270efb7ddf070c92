"""A console over the slow bench; commands are told apart by regular expressions."""

import re

from patterndeeds import errors, parser
from patterndeeds.codes import code_of
from patterndeeds.kinds import is_sound
from patterndeeds.printer import program_text
from patterndeeds.shortening import shortened
from patterndeeds.values import text_of
from slowbench import SlowBench, Wrong

NUMBER, NAME, TEXT = "(0|[1-9][0-9]{0,8})", "([^ ]+)", "(?: (.*))?"
KIND = "([<|])"
FORMS = {
    "program": TEXT, "input": " " + NAME + TEXT, "start": " " + NAME + TEXT, "aside": " " + KIND + " " + NAME + TEXT,
    "more": " " + NUMBER + TEXT, "whole": " " + NUMBER, "feed": " " + KIND + " " + NAME + TEXT,
    "close": " " + KIND + " " + NAME, "go": " " + NUMBER, "back": " " + NUMBER, "run": " " + NUMBER,
            "mark": " " + NUMBER,
    "unmark": " " + NUMBER, "begin": "", "keep": "", "drop": "", "undo": "", "where": "", "show": " " + NAME,
    "entry": " " + NAME + TEXT, "field": " " + NUMBER, "record": "", "output": " (?:([>|]) " + NAME + "|-)", "tree": "",
    "code": "", "least": "",
}


class SlowConsole:

    def __init__(self):
        self.bench = None

    def execute(self, command):
        """The answer; Wrong with the word of an error."""
        word = command.partition(" ")[0]
        found = re.fullmatch(word + FORMS[word], command, re.DOTALL) if word in FORMS else None
        if found is None:
            raise Wrong("InvalidCommand")
        parts = [part or "" for part in found.groups()]
        if word == "program":
            return self.new_program(parts[0])
        if self.bench is None:
            raise Wrong("NotReady")
        ticks, world, marks = self.bench.state()
        if word in ("input", "start", "aside"):
            if word == "aside":
                if any(row[:2] == tuple(parts[:2]) for row in world[1]):
                    raise Wrong("InvalidWorld")
                world = (world[0], tuple(sorted(world[1] + (tuple(parts) + (False,),))))
            else:
                world = (world[0] + ((parts[0], parts[1], word == "input"),), world[1])
            self.bench = SlowBench(self.bench.program, world)
            for place in sorted(marks):
                self.bench.do(("mark", place))
            return "ok"
        if word in ("go", "back", "run"):
            return str(self.bench.do((word, int(parts[0]))))
        deeds = {"mark": lambda: ("mark", int(parts[0])), "unmark": lambda: ("unmark", int(parts[0])),
                 "more": lambda: ("main", int(parts[0]), parts[1], False), "whole": lambda: ("main", int(parts[0]), "",
                 True),
                 "feed": lambda: ("aside", parts[0], parts[1], parts[2], False),
                 "close": lambda: ("aside", parts[0], parts[1], "", True)}
        if word in deeds:
            self.bench.do(deeds[word]())
            return "ok"
        if word in ("begin", "keep", "drop"):
            getattr(self.bench, word)()
            return "ok"
        if word == "undo":
            return self.bench.undo()[0]
        return self.told(word, parts)

    def new_program(self, text):
        try:
            program = parser.program_of(text)
        except errors.DeedError as error:
            raise Wrong(type(error).__name__)
        if not is_sound(program):
            raise Wrong("Unsound")
        self.bench = SlowBench(program, ((), ()))
        return "ok"

    def told(self, word, parts):
        outcome = self.bench.outcome()
        line, fields = outcome[2][1][5]
        if word == "where":
            return " ".join(str(one) for one in outcome[1])
        if word == "show":
            return text_of(self.bench.value(parts[0]))
        if word == "entry":
            found = self.bench.entry(*parts)
            return "none" if found is None else text_of(found)
        if word == "field":
            rows = (line,) + fields
            return rows[int(parts[0])] if int(parts[0]) < len(rows) else "none"
        if word == "record":
            return line
        if word == "output":
            found = self.bench.output(*parts)
            return "none" if found is None else found
        if word == "tree":
            return program_text(self.bench.program)
        code = code_of(self.bench.program)
        return " ".join(str(len(body[2])) for body in (code if word == "code" else shortened(code))[3])
