"""[55]: texts of held states, there and back."""

import json
import re
import unittest

import slowholding
from makingcodes import Codes
from makingruns import Runs
from patterndeeds.codes import code_of
from patterndeeds.errors import InvalidCode, InvalidHeld, InvalidText, UnsoundCode
from patterndeeds.heldtexts import held_of, held_text
from patterndeeds.machine import begun, go, step
from patterndeeds.parser import program_of
from helper import MANY, VALUES, Case, exchanged, random_of
from test_fits import SOURCE, WORLD, states_of

TOKEN = re.compile(r'0|-?[1-9][0-9]{0,89}|"(?:[^"\\\n\t]|\\["\\nt])*"|[TFN(),]')
AS_JSON = {"T": "true", "F": "false", "N": "null", "(": "[", ")": "]"}


def slow_read(text):
    """The tuple with a text, by tokens and a reader of another format; None if there is none."""
    tokens, at = [], 0
    while at < len(text):
        found = TOKEN.match(text, at)
        if found is None:
            return None
        tokens.append(found.group())
        at = found.end()
    if any(one[-1:].isdigit() and other[:1].isdigit() for one, other in zip(tokens, tokens[1:])):
        return None
    level = deepest = 0
    for token in tokens:
        level += (token == "(") - (token == ")")
        deepest = max(deepest, level)
    try:
        made = json.loads("".join(AS_JSON.get(token, token) for token in tokens))
    except ValueError:
        return None
    return as_tuple(made) if type(made) is list and deepest <= 12 else None


def as_tuple(made):
    return tuple(as_tuple(one) for one in made) if type(made) is list else made


def begins(text):
    """Whether some text of a tuple begins with a text: one of some ways to complete it gives one."""
    return any(slow_read(text + token + thing + ")" * many) is not None
               for token in ["", '"', 'n"', "1"] for thing in ["", "N"] for many in range(13))


def slow_index(text):
    """The greatest number such that some text of a tuple begins with so many first signs."""
    low, high = 0, len(text)
    while low < high:
        middle = (low + high + 1) // 2
        low, high = (middle, high) if begins(text[:middle]) else (low, middle - 1)
    return low


class TestHeldTexts(Case):

    def check(self, code, text):
        """Checks what a text is read as against the slow ways."""
        slow = slow_read(text)
        if slow is not None and slowholding.fits(code, None, slow):
            self.assertEqual(repr(held_of(code, text)), repr(slow))
            self.assertEqual(held_text(code, slow), text)
            return True
        self.raises_with(InvalidText, "index", len(text) if slow is not None else slow_index(text), held_of, code, text)
        return False

    def test_there_and_back(self):
        """[M6], for states of every kind; the run that goes on is the same."""
        random = random_of("texts")
        maker, codes = Runs(random), Codes(random)
        code = code_of(program_of(SOURCE))
        cases = [(code, WORLD, held) for held in states_of(code, WORLD, 400)]
        for at in range(40 * MANY):
            world = maker.world()
            code = code_of(maker.program(4)) if at % 2 else codes.code(30)
            cases.extend((code, world, held) for held in random.sample(states_of(code, world, 80), 1))
        for code, world, held in cases:
            text = held_text(code, held)
            self.assertEqual(repr(held_of(code, text)), repr(held))
            self.assertEqual(slow_read(text), held)
            self.assertEqual(go(code, world, held_of(code, text), 5), go(code, world, held, 5))

    def test_by_hand(self):
        code = code_of(program_of(""))
        names = [("FILENAME", '("text","")'), ("FNR", '("number",0,1)'), ("FS", '("text"," ")'),
                 ("NF", '("number",0,1)'), ("NR", '("number",0,1)'), ("OFS", '("text"," ")'), ("ORS", '("text","\\n")'),
                 ("RLENGTH", '("number",-1,1)'), ("RS", '("text","\\n")'), ("RSTART", '("number",0,1)'),
                 ("SUBSEP", '("text","\\t")')]
        room = '("begin",0,(%s),(),(),("",()),(-1,0,()),())' % ",".join('("%s",%s)' % one for one in names)
        self.assertEqual(held_text(code, begun(code)), "(N,0,(0,0),(),(),%s)" % room)
        held = exchanged(begun(code), (5, 5), ('a"b\\c\n\t/', ()))
        text = held_text(code, held)
        self.assertIn('("a\\"b\\\\c\\n\\t/",())', text)
        self.assertEqual(held_of(code, text), held)
        over = go(code, ((), ()), begun(code), 1)[2]
        self.assertEqual(held_text(code, over)[:26], '(("over",0),0,(0,0),(),(),'[:26])

    def test_signs_put_in_left_out_and_exchanged(self):
        random = random_of("signs")
        code = code_of(program_of('BEGIN { f(a) } function f(p, q) { p["k"] = "a\\"\\n"; for (q in p) print q; '
                                  'getline; f(p) }'))
        world = ((("m", "x\n" * 9, True),), ())
        states = states_of(code, world, 60)
        right = set()
        for held in random.sample(states, 2) + states[-1:]:
            text = held_text(code, held)
            for at in random.sample(range(len(text)), min(40 * MANY, len(text))) + [0, 1, len(text) - 1, len(text)]:
                sign = random.choice('()",\\ntTFN0019-a \n\t')
                for made in [text[:at] + sign + text[at:], text[:at] + text[at + 1:], text[:at] + sign + text[at + 1:],
                             text[:at]]:
                    right.add(self.check(code, made))
        self.assertEqual(right, {True, False})

    def test_short_texts(self):
        random = random_of("short")
        code = code_of(program_of(""))
        for text in ["", "(", ")", "()", "(()", "(())", "(N", "(N,", "(N,)", "(,)", "(N)", "(N))", "N", "1", '""',
                "(-", "(-0",
                "(-0)", "(-1)", "(0", "(00)", "(01)", "(1 )", "( 1)", '("', '("\\', '("\\n', '("\\a")', '("\n")',
                '("\t")',
                '("a")', '("a"', '("a"b', "(T", "(TF)", "(T,F,N)", "(t)", "()()", "(()())", "((),())", "(1,-1,0)",
                "(--1)",
                "(1-)", "x(", " ()", "() ", "(-,1)", "(-)", "(1-1)", "()-", "()-1", "(-12,-0,1)", '("-",-', '("-0",-x',
                '("a\\"', '("a\\")', '("a\\\\"', '("a\\\\")', '("a\\\\\\")', '(\\"a")', '("a",\\"b")',
                '("\\"","\\")', '("a\\x","\n")', '("a\n\\x")', '("a\t","\n")', '(1,\n', '()\n', '()\t',
                '("a"\t"b")', '\n', '(\t', '"\n"', '("a""b")', '("a"1)', '(1"a")', '(T"a")', '("a"(', '("a"T',
                '(()"a")', '("\\\\\\"",1,)', '"("', '(12,-34,N12)', '(1N)', '(-N)', '(10,01)', '(0-1)', '(-1-1)',
                '("(,)",")', '("")"', '"', '"")', '("","")1', '("","","]")]']:
            self.assertIs(self.check(code, text), False)
        for _ in range(300 * MANY):
            self.check(code, "(" + "".join(random.choice('(),,"\\nTN019- ') for _ in range(random.randrange(12))))

    def test_long_numbers(self):
        code = code_of(program_of(""))
        held = begun(code)
        for digits in [1, 89, 90]:
            for sign in [1, -1]:
                made = exchanged(held, (5, 1), sign * (10 ** digits - 1))
                self.assertEqual(held_of(code, held_text(code, made)), made)
        text = held_text(code, exchanged(held, (5, 1), 10 ** 90 - 1))
        at = text.index("9" * 90)
        self.raises_with(InvalidText, "index", at + 90, held_of, code, text.replace("9" * 90, "9" * 91))
        self.raises_with(InvalidText, "index", at + 91, held_of, code, text.replace("9" * 90, "-" + "9" * 91))
        self.raises_with(InvalidText, "index", at + 1, held_of, code, text.replace("9" * 90, "0" + "9" * 9))
        self.raises_with(InvalidText, "index", at + 2, held_of, code, text.replace("9" * 90, "-1-1"))
        for number in ["1" + "0" * 89, "-1" + "0" * 89]:
            made = text.replace("9" * 90, number)
            self.assertEqual(held_of(code, made)[5][1], int(number))
            self.raises_with(InvalidText, "index", at + len(number), held_of, code, made.replace(number, number + "0"))

    def test_brackets(self):
        code = code_of(program_of(""))
        for many in range(1, 15):
            text = "(" * many + ")" * many
            self.raises_with(InvalidText, "index", len(text) if many <= 12 else 12, held_of, code, text)
        self.raises_with(InvalidText, "index", 17, held_of, code, "((),1" + ",(((((((((((((")

    def test_tuples_that_do_not_fit(self):
        code, other = code_of(program_of("{ x = 1 }")), code_of(program_of("{ a[1] }"))
        text = held_text(code, begun(code))
        self.raises_with(InvalidText, "index", len(text), held_of, other, text)
        for old, new in [("(-1,0,())", "(0,5,())"), ("(-1,0,())", "(7,9,((\"<\",\"f\",3)))"), ("\"begin\"",
                "\"main\"")]:
            self.assertEqual(held_of(code, text.replace(old, new)), slow_read(text.replace(old, new)))
        for old, new in [("(-1,0,())", "(-1,5,())"), ("(-1,0,())", "(-2,0,())"), ("\"begin\"", "\"over\""), ("N", "T"),
                ("(0,0)", "(0,99)"), ("N,0", "N,-1")]:
            made = text.replace(old, new, 1)
            self.assertNotEqual(made, text)
            self.raises_with(InvalidText, "index", len(made), held_of, code, made)

    def test_errors(self):
        code = code_of(program_of(""))
        bad = code[:3] + ((("", (), (("drop",), ("phase", "end"), ("halt",))),),)
        for value in VALUES:
            self.raises(InvalidCode, held_text, value, None)
            self.raises(InvalidCode, held_of, value, "")
            self.raises(InvalidHeld, held_text, code, value)
        self.raises(UnsoundCode, held_text, bad, None)
        self.raises(UnsoundCode, held_of, bad, "")
        self.assertEqual(held_of(code=code, text=held_text(code=code, held=step(code, ((), ()), begun(code))[0]))[5][0],
                         "end")


if __name__ == "__main__":
    unittest.main()
