"""Promises [70] and [71]."""

import random
import unittest

from callersrights.errors import InvalidProgram, InvalidText, RightsError
from callersrights.library import Library
from callersrights.live import Live
from callersrights.programs import Program
from callersrights.texts import read_program, text_of
from samples import Case, dense_program, nested, odd_values, one_function, open_program, random_program, store
from samples import two_functions

STORE_TEXT = "\n".join([
    "rights read write", "owner app read", "owner lib read write",
    "function main app { call save loop { check read } }",
    "function save lib { marked { check write } either { check write } or { } }",
])
WORDS = ["rights", "owner", "function", "call", "or", "loop", "either", "marked", "block", "tail", "check", "back"]


def wordy():
    """A program whose names are the words of texts."""
    rights = ["rights", "owner", "or", "loop", "back"]
    owners = [("owner", ["or", "rights"]), ("function", []), ("either", ["loop"]), ("rights", ["back"])]
    functions = [
        ("function", "owner", [("call", "call"), ("tail", "or"), ("check", "or"), ("back",), ("check", "back")]),
        ("call", "function", [("either", [("call", "or")], [("check", "rights"), ("call", "either")])]),
        ("or", "rights", [("loop", [("check", "loop"), ("loop", [])])]),
        ("either", "either", [("either", [], [("either", [], [])])]),
        ("marked", "owner", [("block", True, [("call", "marked")]), ("block", False, [("tail", "loop")])]),
        ("loop", "function", [("tail", "function"), ("check", "owner")]),
    ]
    return Program(rights, owners, functions)


def tokens_in(line):
    """The tokens of a line as text_of writes it."""
    return line.split(" ")


def open_body(braces):
    """The text of a function's body in which so many braces are open at once, its own counted."""
    return "loop { " * (braces - 1) + "} " * (braces - 1)


class TestTextOf(Case):
    def test_the_documents_example(self):
        self.assertEqual(text_of(store()), STORE_TEXT)
        self.assertEqual(text_of(program=store()).split("\n")[4], STORE_TEXT.split("\n")[4])

    def test_every_kind_of_step(self):
        body = [
            ("call", "g"), ("tail", "f"), ("check", "read"), ("back",), ("either", [("back",)], [("call", "f")]),
            ("loop", [("tail", "g")]), ("block", False, [("check", "write")]), ("block", True, [("back",)]),
        ]
        self.assertEqual(text_of(two_functions(body, [])), "\n".join([
            "rights read write", "owner app read", "owner lib read write",
            "function f app { call g tail f check read back either { back } or { call f }"
            " loop { tail g } block { check write } marked { back } }",
            "function g lib { }",
        ]))

    def test_nested_steps(self):
        body = [("either", [("loop", [("block", True, []), ("back",)])], [("either", [], [("block", False, [])])])]
        self.assertEqual(text_of(one_function(body)).split("\n")[2],
                         "function f app { either { loop { marked { } back } } or { either { } or { block { } } } }")

    def test_rights_as_they_were_given(self):
        program = Program(["b", "a", "c"], [("z", ["c", "b"]), ("y", [])], [("f", "y", [])])
        self.assertEqual(text_of(program), "rights b a c\nowner z c b\nowner y\nfunction f y { }")

    def test_no_blank_too_many(self):
        for seed in range(60):
            text = text_of(random_program(seed))
            self.assertNotIn("  ", text)
            self.assertNotIn("\n\n", text)
            for line in text.split("\n"):
                self.assertEqual(line, line.strip())

    def test_twelve_deep(self):
        text = text_of(one_function(nested(("check", "read"), 12)))
        self.assertEqual((text.count("{"), text.count("}")), (17, 17))
        self.assertIn("{ check read }", text)

    def test_a_thousand_steps(self):
        body = nested(("check", "read"), 12) * 41
        text = text_of(one_function(body))
        self.assertEqual(text.count("check read"), 41)
        self.assertEqual(text, text_of(one_function(body)))

    def test_refused_programs(self):
        for value in odd_values() + [Live(store()), Library(store()), STORE_TEXT]:
            if not isinstance(value, Program):
                self.refuses(InvalidProgram, value, text_of, value)


class TestReadProgram(Case):
    def same(self, text, program):
        told = read_program(text)
        self.assertIsInstance(told, Program)
        self.assertEqual(told, program)
        self.assertEqual(repr(told.functions()), repr(program.functions()))

    def test_the_documents_example(self):
        self.same(STORE_TEXT, store())
        self.assertEqual(read_program(text=STORE_TEXT), store())

    def test_texts_read_back(self):
        for seed in range(150):
            for program in (random_program(seed), dense_program(seed), open_program(seed)):
                self.same(text_of(program), program)

    def test_words_of_the_text_as_names(self):
        self.same(text_of(wordy()), wordy())
        self.assertEqual(text_of(wordy()).split("\n")[1], "owner owner or rights")
        for word in WORDS:
            program = Program([word], [(word, [word])], [(word, word, [("call", word), ("check", word), ("back",)])])
            self.same(f"rights {word}\nowner {word} {word}\nfunction {word} {word} "
                      f"{{ call {word} check {word} back }}", program)

    def test_no_blank_around_braces(self):
        self.same("rights read write\nowner app read\nowner lib read write\n"
                  "function main app{call save loop{check read}}\n"
                  "function save lib{marked{check write}either{check write}or{}}", store())

    def test_blanks_wherever_they_may_be(self):
        for blanks in ("  ", " " * 9):
            text = STORE_TEXT.replace(" ", blanks)
            self.same(text, store())
            self.same(blanks + text.replace("\n", blanks + "\n" + blanks) + blanks, store())
            self.same(text.replace("{", blanks + "{").replace("}", blanks + "}"), store())

    def test_lines_without_a_token(self):
        for gap in ("\n\n", "\n\n\n\n", "\n \n", "\n   \n\n  \n"):
            self.same(STORE_TEXT.replace("\n", gap), store())
        for gap in ("\n", "\n\n", "  \n", " \n \n"):
            self.same(gap + STORE_TEXT, store())
            self.same(STORE_TEXT + gap, store())
            self.same(gap + STORE_TEXT.replace("\n", gap + "\n") + gap, store())
        self.same(STORE_TEXT + "\n   ", store())

    def test_eight_braces_open(self):
        for braces in (1, 2, 7, 8):
            told = read_program("rights r\nowner a\nfunction f a { " + open_body(braces) + "}")
            body = []
            for _ in range(braces - 1):
                body = [("loop", body)]
            self.assertEqual(told.functions(), [("f", "a", body)])
        text = "rights r\nowner a\nfunction f a { " + open_body(8) * 3 + "}\nfunction g a { " + open_body(8) + "}"
        self.assertEqual(len(read_program(text).functions()[0][2]), 3)
        program = one_function(nested(("check", "read"), 8))
        self.same(text_of(program), program)

    def test_most_and_fewest(self):
        self.same("rights a\nowner a\nfunction a a{}", Program(["a"], [("a", [])], [("a", "a", [])]))
        lines = ["rights a b c d abcdefgh", *["owner " + name + " d a c b" for name in "abcde"],
                 *["function " + name + " a { }" for name in "abcdef"]]
        program = Program(["a", "b", "c", "d", "abcdefgh"], [(name, list("dacb")) for name in "abcde"],
                          [(name, "a", []) for name in "abcdef"])
        self.same("\n".join(lines), program)

    def test_three_thousand_signs(self):
        body = [("call", "f"), ("back",)] * 240
        program = one_function(body)
        self.assertLess(2900, len(text_of(program)))
        self.same(text_of(program), program)
        self.same(STORE_TEXT + "\n" * 2800, store())
        self.same(STORE_TEXT.replace(" ", " " * 100), store())

    def test_a_thousand_steps(self):
        program = one_function(nested(("check", "read"), 8) * 60)
        self.same(text_of(program), program)


class TestNoTexts(Case):
    def refused(self, text):
        self.refuses(InvalidText, text, read_program, text)

    def refused_line(self, line, at=3):
        """The document's text with another line there."""
        lines = STORE_TEXT.split("\n")
        lines[at] = line
        self.refused("\n".join(lines))

    def test_values_of_every_kind(self):
        for value in odd_values() + [[STORE_TEXT], STORE_TEXT.split("\n"), STORE_TEXT.encode(), store()]:
            self.refused(value)

    def test_no_text_at_all(self):
        for text in ("", " ", "\n", " \n  \n", "a", "{", "}", "{}"):
            self.refused(text)

    def test_lines_left_out(self):
        lines = STORE_TEXT.split("\n")
        for at in (0, 1, 2, 3, 4):
            if at != 3:
                self.refused("\n".join(lines[:at] + lines[at + 1:]))
        self.refused("\n".join(lines[:3]))
        self.refused("\n".join(lines[:1] + lines[3:]))
        self.refused(lines[0])

    def test_lines_exchanged(self):
        lines = STORE_TEXT.split("\n")
        for one in range(5):
            for two in range(one + 1, 5):
                # Owners among themselves, and functions, stand in any order: that is another program.
                changed = list(lines)
                changed[one], changed[two] = lines[two], lines[one]
                if (one, two) in ((1, 2), (3, 4)):
                    self.assertNotEqual(read_program("\n".join(changed)), store())
                else:
                    self.refused("\n".join(changed))

    def test_lines_doubled(self):
        lines = STORE_TEXT.split("\n")
        for at in range(5):
            self.refused("\n".join(lines[:at + 1] + lines[at:]))
            self.refused("\n".join(lines + [lines[at]]))

    def test_lines_that_are_none(self):
        for line in ("x", "right read", "{ }", "call main", "or", "function", "owner", "rights", "rights read",
                     "end", "back", "functions main app { }", "main", "function main app { } function"):
            self.refused(STORE_TEXT + "\n" + line)
            self.refused(line + "\n" + STORE_TEXT)

    def test_one_line_on_two(self):
        for at, sign in enumerate(STORE_TEXT):
            if sign == " ":
                self.refused(STORE_TEXT[:at] + "\n" + STORE_TEXT[at + 1:])

    def test_two_lines_on_one(self):
        for at, sign in enumerate(STORE_TEXT):
            if sign == "\n":
                self.refused(STORE_TEXT[:at] + " " + STORE_TEXT[at + 1:])

    def test_other_signs(self):
        for sign in ["\t", "\r", "\f", "\v", "\0", "-", "_", ",", ";", "(", "[", "]", ")", "0", "1", "A", "Z", "\"",
                     "\u00a0", "\u00e9", "\u0131", "\u2028", "\u2029", "\x85", "\x1c", "\uff41", "\ud800"]:
            for at in range(0, len(STORE_TEXT) + 1):
                self.refused(STORE_TEXT[:at] + sign + STORE_TEXT[at:])
            self.refused(STORE_TEXT.replace(" ", sign))
            self.refused(STORE_TEXT.replace("\n", sign))
            self.refused(STORE_TEXT.replace("\n", sign + "\n"))
            self.refused(STORE_TEXT + "\n" + sign)
            self.refused(STORE_TEXT.replace("\n", "\n" + sign + "\n"))

    def test_capital_letters(self):
        for at, sign in enumerate(STORE_TEXT):
            if sign.isalpha():
                self.refused(STORE_TEXT[:at] + sign.upper() + STORE_TEXT[at + 1:])
        self.refused(STORE_TEXT.upper())

    def test_signs_left_out(self):
        """A brace or a word left out; a letter left out may give another program, or none."""
        for at, sign in enumerate(STORE_TEXT):
            if sign in "{}":
                self.refused(STORE_TEXT[:at] + STORE_TEXT[at + 1:])
                self.refused(STORE_TEXT[:at] + " " + STORE_TEXT[at + 1:])
            if sign == " " and "{" not in STORE_TEXT[at - 1:at + 2] and "}" not in STORE_TEXT[at - 1:at + 2]:
                self.refused(STORE_TEXT[:at] + STORE_TEXT[at + 1:])

    def test_signs_doubled_and_put_in(self):
        for at, sign in enumerate(STORE_TEXT):
            if sign in "{}":
                self.refused(STORE_TEXT[:at] + sign + STORE_TEXT[at:])
            for other in "{}":
                self.refused(STORE_TEXT[:at] + other + STORE_TEXT[at:])
                if sign not in " \n" and sign != other:
                    self.refused(STORE_TEXT[:at] + other + STORE_TEXT[at + 1:])

    def test_words_of_nine_letters(self):
        long = "abcdefghi"
        self.assertEqual(read_program("rights abcdefgh\nowner a\nfunction f a { }").rights(), ["abcdefgh"])
        self.refused("rights abcdefghi\nowner a\nfunction f a { }")
        self.refused(f"rights r\nowner {long}\nfunction f {long} {{ }}")
        self.refused(f"rights r\nowner a\nfunction {long} a {{ }}")
        self.refused(f"rights r\nowner a\nfunction {long} a {{ call {long} }}")
        self.refused_line("functions main app { }")
        self.refused_line("function main app { callcalls save }")

    def test_functions_that_are_none(self):
        for line in [
            "function", "function main", "function main app", "function main app {", "function main app }",
            "function main app { } }", "function main app { } {", "function main app { } { }", "function main { }",
            "function { }", "function main app x { }", "function main app { } x", "function main app ( )",
            "function main app call save", "main app { }", "function main main { }", "function main none { }",
            "function main { app }", "{ function main app }", "function main app { { } }", "function main app { } back",
            "function main app { function save lib { } }",
        ]:
            self.refused_line(line)

    def test_steps_that_are_none(self):
        for steps in [
            "x", "save", "call", "tail", "check", "call none", "tail none", "check none", "call read", "check main",
            "call app", "call save save", "check read write", "back save", "back { }", "back back x", "call { }",
            "call { save }", "check { read }", "check }", "loop", "loop save", "loop { } }", "loop { { } }",
            "loop { } { }", "block", "block { } { }", "block true { }", "block marked { }", "marked block { }",
            "marked", "marked { tail save }", "marked { loop { tail save } }", "marked { block { tail save } }",
            "either", "either { }", "either { } { }", "either { } or", "either { } or back", "either or { }",
            "either { } or { } or { }", "either { } or { } { }", "or { }", "or", "either { or }", "either { or } { }",
            "either { } either { }", "either { } call or { }", "end", "fail", "rights", "owner", "function", "{ }",
            "{", "}", "} {", "callsave", "checkread", "loop { back", "loop back }", "call save }", "call save , back",
        ]:
            self.refused_line("function main app { " + steps + " }")
            self.refused_line("function main app { back " + steps + " back }")
            self.refused_line("function main app { loop { " + steps + " } }")

    def test_owners_that_are_none(self):
        for line in ["owner", "owner { }", "owner app none", "owner app read read", "owner app { read }", "owner lib",
                     "owner app read write read", "owner read app", "owners app", "app read", "owner app lib",
                     "owner { app }", "owner app }", "owner app,"]:
            self.refused_line(line, 1)

    def test_rights_that_are_none(self):
        for line in ["rights", "rights read", "rights { read write }", "rights read write read", "right read write",
                     "rights read write a b c d", "rights read, write", "read write", "rights } read write",
                     "rights read write }", "owner read write"]:
            self.refused_line(line, 0)

    def test_nine_braces_open(self):
        for braces in (9, 10, 12, 500):
            self.refused("rights r\nowner a\nfunction f a { " + open_body(braces) + "}")
        self.refused(text_of(one_function(nested(("check", "read"), 9))))
        self.refused("rights r\nowner a\nfunction f a { " + open_body(8) + open_body(9) + "}")
        text = "rights r\nowner a\nfunction f a { " + "loop { " * 7 + "{}" + " }" * 8
        self.refused(text)
        self.refused("rights r\nowner a\nfunction f a " + "{" * 2900)
        self.refused("rights r\nowner a\nfunction f a " + "{loop" * 580)
        self.refused("{" * 3000)

    def test_what_the_tenth_point_refuses(self):
        for text in [
            "rights r r\nowner a\nfunction f a { }",
            "rights a b c d e f\nowner a\nfunction f a { }",
            "rights r\nowner a\nowner a\nfunction f a { }",
            "rights r\nowner a r r\nfunction f a { }",
            "rights r\nowner a s\nfunction f a { }",
            "rights r\n" + "".join([f"owner {name}\n" for name in "abcdef"]) + "function f a { }",
            "rights r\nowner a\nfunction f a { }\nfunction f a { }",
            "rights r\nowner a\n" + "\n".join([f"function {name} a {{ }}" for name in "abcdefg"]),
            "rights r\nowner a\nfunction f b { }",
            "rights r\nowner a\nfunction f a { call g }",
            "rights r\nowner a\nfunction f a { check s }",
            "rights r\nowner a\nfunction f a { marked { tail f } }",
            "rights r\nowner a",
            "rights r\nfunction f a { }",
            "owner a\nfunction f a { }",
        ]:
            self.refused(text)

    def test_changed_texts(self):
        """A changed text is the text of a program, and then of the one that a plain reader finds, or refused."""
        chance = random.Random(5)
        texts = [STORE_TEXT, text_of(wordy())] + [text_of(random_program(seed)) for seed in range(20)]
        read = 0
        for _ in range(10000):
            text = chance.choice(texts)
            at, other = chance.randrange(len(text)), chance.randrange(len(text))
            sign = chance.choice("abcorw{} \n\tA")
            text = chance.choice([
                text[:at] + text[at + 1:], text[:at] + sign + text[at:], text[:at] + sign + text[at + 1:],
                text[:at] + text[other:other + 12] + text[at:], text[:at] + text[at + 7:],
            ])
            wanted = plain_reading(text)
            if wanted is None:
                self.refused(text)
            else:
                read += 1
                self.assertEqual(read_program(text), wanted)
        self.assertGreater(read, 500)


def plain_reading(text):
    """The program of a text, or None, found by putting blanks right and taking lines apart from their ends."""
    if any(sign not in "abcdefghijklmnopqrstuvwxyz{} \n" for sign in text):
        return None
    lines = []
    for line in text.split("\n"):
        spread = "".join([" " + sign + " " if sign in "{}" else sign for sign in line]).split()
        if spread:
            lines.append(spread)
    if not lines or lines[0][0] != "rights" or any(len(word) > 8 for line in lines for word in line):
        return None
    rest = lines[1:]
    owners, functions = [], []
    while rest and rest[0][0] == "owner":
        owners.append(rest.pop(0)[1:])
    while rest and rest[0][0] == "function":
        functions.append(rest.pop(0)[1:])
    if rest or any(not owner for owner in owners) or any(deepest(line) > 8 for line in functions):
        return None
    try:
        made = [(line[0], line[1], closed(line[2:])) for line in functions]
        return Program(lines[0][1:], [(owner[0], owner[1:]) for owner in owners], made)
    except (IndexError, KeyError, RightsError):
        return None


def deepest(tokens):
    """The most braces that are open at once."""
    return max([tokens[:at].count("{") - tokens[:at].count("}") for at in range(len(tokens) + 1)])


def closed(tokens):
    """The body that the tokens are, with its braces."""
    body, rest = body_in(tokens)
    if rest:
        raise KeyError
    return body


def body_in(tokens):
    """The body with which tokens begin, and the tokens behind it."""
    if tokens[0] != "{":
        raise KeyError
    tokens, body = tokens[1:], []
    while tokens[0] != "}":
        word, rest = tokens[0], tokens[1:]
        if word in ("call", "tail", "check"):
            body.append((word, rest[0]))
            tokens = rest[1:]
        elif word == "back":
            body.append((word,))
            tokens = rest
        elif word == "either":
            first, rest = body_in(rest)
            if rest[0] != "or":
                raise KeyError
            second, tokens = body_in(rest[1:])
            body.append((word, first, second))
        else:
            inner, tokens = body_in(rest)
            body.append({"loop": ("loop",), "block": ("block", False), "marked": ("block", True)}[word] + (inner,))
    return body, tokens[1:]


if __name__ == "__main__":
    unittest.main()
