"""Expressions and their texts (points 56 and 59)."""

import random
import re
import unittest

from tessera.errors import InvalidExpression
from tessera.expressions import depth, format_expression, is_expression, parse_expression, paths_of

from tests.tools import error_of

A, B, ONE = ("path", "a"), ("path", "b/c"), ("number", 1)
THIRTY = 10 ** 30 - 1
PARTS = {"add": 2, "sub": 2, "mul": 2, "min": 2, "max": 2, "less": 2, "pick": 3}
GOOD = {
    "@": ("path", ""),
    "@a": A,
    "@a/b/c/d/e/f": ("path", "a/b/c/d/e/f"),
    "0": ("number", 0),
    "-17": ("number", -17),
    "9" * 30: ("number", THIRTY),
    "-" + "9" * 30: ("number", -THIRTY),
    "( add @a 1 )": ("add", A, ONE),
    "( sub @b/c @a )": ("sub", B, A),
    "( mul 1 1 )": ("mul", ONE, ONE),
    "( min @a ( max 1 @b/c ) )": ("min", A, ("max", ONE, B)),
    "( less ( less @a 1 ) 1 )": ("less", ("less", A, ONE), ONE),
    "( pick @a @b/c 1 )": ("pick", A, B, ONE),
    "( shift @a )": ("shift", A, ()),
    "( shift @a 0 )": ("shift", A, (0,)),
    "( shift @a " + "9" * 30 + " -" + "9" * 30 + " )": ("shift", A, (THIRTY, -THIRTY)),
    "( shift ( shift 1 -1 2 ) 3 -4 5 -6 )": ("shift", ("shift", ONE, (-1, 2)), (3, -4, 5, -6)),
    "( pick ( less @a 1 ) ( shift @b/c 1 0 ) ( add @ -1 ) )":
        ("pick", ("less", A, ONE), ("shift", B, (1, 0)), ("add", ("path", ""), ("number", -1))),
}


def tower(levels, name="add"):
    """An expression of this depth."""
    made = A
    for _ in range(levels - 1):
        made = {"shift": ("shift", made, (1,)), "pick": ("pick", ONE, ONE, made)}.get(name, (name, made, ONE))
    return made


def random_expression(choose, levels):
    """An expression of at most this depth."""
    if levels == 1 or choose.random() < 0.25:
        return choose.choice([A, B, ("path", ""), ("number", choose.randrange(-20, 20)), ("number", THIRTY), ("path", "0")])
    name = choose.choice(sorted(PARTS) + ["shift", "shift"])
    if name == "shift":
        offsets = tuple([choose.randrange(-3, 4) for _ in range(choose.randrange(5))])
        return (name, random_expression(choose, levels - 1), offsets)
    return (name,) + tuple([random_expression(choose, levels - 1) for _ in range(PARTS[name])])


def text_of(expression):
    """The text of an expression, built in another way than the program does."""
    name, *rest = expression
    if name == "path":
        return "@" + rest[0]
    if name == "number":
        return str(rest[0])
    words = [str(number) for number in rest.pop()] if name == "shift" else []
    return " ".join(["(", name] + [text_of(part) for part in rest] + words + [")"])


class Wrong(Exception):
    pass


def parsed(text):
    """The expression with this text, or None; found by closing the brackets from the inside."""
    try:
        return close_all(text)
    except Wrong:
        return None


def close_all(text):
    """Replaces each bracket without inner brackets by a mark, until nothing but a mark is left."""
    made = []

    def mark(expression):
        made.append(expression)
        return f"<{len(made) - 1}>"

    def level(expression):
        name, *rest = expression
        if name in ("path", "number"):
            return 1
        return 1 + max(level(part) for part in (rest[:1] if name == "shift" else rest))

    def atom(word):
        if re.fullmatch("<[0-9]+>", word):
            return made[int(word[1:-1])]
        if re.fullmatch("@(|[a-z0-9]{1,12}(/[a-z0-9]{1,12}){0,5})", word):
            return ("path", word[1:])
        if re.fullmatch("0|-?[1-9][0-9]{0,29}", word):
            return ("number", int(word))
        raise Wrong()

    def close(found):
        name, *words = found.group(1).split(" ")
        if name == "shift" and words:
            if not all(re.fullmatch("0|-?[1-9][0-9]{0,29}", word) for word in words[1:]):
                raise Wrong()
            return mark(("shift", atom(words[0]), tuple([int(word) for word in words[1:]])))
        if PARTS.get(name) != len(words):
            raise Wrong()
        return mark((name,) + tuple([atom(word) for word in words]))

    if "<" in text:
        raise Wrong()
    while text.startswith("("):
        closed = re.sub(r"\( ([^()]*) \)", close, text, count=1)
        if closed == text:
            raise Wrong()
        text = closed
    expression = atom(text)
    if level(expression) > 12:
        raise Wrong()
    return expression


class DepthTests(unittest.TestCase):
    def test_paths_and_numbers(self):
        self.assertEqual([depth(A), depth(("path", "")), depth(ONE), depth(("number", -5))], [1, 1, 1, 1])

    def test_the_greatest_depth_of_the_parts(self):
        for name in PARTS:
            for at in range(PARTS[name]):
                parts = [ONE] * PARTS[name]
                parts[at] = ("add", A, ("shift", B, (1,)))
                self.assertEqual(depth((name,) + tuple(parts)), 4)
        self.assertEqual(depth(("shift", A, (1, 2, 3))), 2)
        self.assertEqual(depth(("shift", ("mul", A, A), ())), 3)

    def test_deep_ones(self):
        for name in list(PARTS) + ["shift"]:
            for levels in (1, 2, 11, 12, 13, 60):
                self.assertEqual(depth(tower(levels, name)), levels)


class PathsTests(unittest.TestCase):
    def test_ascending_and_each_once(self):
        for expression, due in [
            (ONE, []), (A, ["a"]), (("add", B, A), ["a", "b/c"]), (("add", A, A), ["a"]), (("path", ""), [""]),
            (("pick", ("path", "z"), ("shift", ("path", "a0"), (1,)), ("mul", ("path", "a/b"), A)), ["a", "a/b", "a0", "z"]),
            (("less", ("number", 2), ("min", ONE, ONE)), []), (("max", ("path", ""), ("path", "")), [""]),
        ]:
            self.assertEqual(paths_of(expression), due)

    def test_lists_are_new(self):
        paths_of(A).clear()
        self.assertEqual(paths_of(A), ["a"])


class FormTests(unittest.TestCase):
    def test_all_forms(self):
        for expression in GOOD.values():
            self.assertIs(is_expression(expression), True, expression)

    def test_depths(self):
        for name in list(PARTS) + ["shift"]:
            self.assertIs(is_expression(tower(12, name)), True)
            for levels in (13, 14, 60):
                self.assertIs(is_expression(tower(levels, name)), False)
        self.assertIs(is_expression(("add", tower(11), tower(11))), True)
        self.assertIs(is_expression(("add", ONE, tower(12))), False)

    def test_wrong_names(self):
        for expression in [
            ("plus", A, ONE), ("", A, ONE), ("Add", A, ONE), ("path", 5), ("number", "a"), ("add", 5), ("add", "a"),
            ("shift", A, ONE), ("add", A, (1, 2)), ("add", A, ()), ("pick", A, ONE), ("add", A, ONE, ONE), ("mul", A, ONE, B),
            ("move", A, (1,)), ("paths", "a"), ("int", 5), ("shift", "a"), ("shift", 5), ("shift", A, B, ONE), ("path", A, (1,)),
            ("number", A, A), ("path", A, A), ("number", A, A, A), ("path", "a", "b"), ("number", 1, 2), ("add", "ab", ONE),
            ("shift", A, 5), ("shift", "ab", (1,)),
        ]:
            self.assertIs(is_expression(expression), False, expression)
            for around in (("add", expression, ONE), ("less", A, expression), ("shift", expression, (1,)), ("pick", A, ONE, expression)):
                self.assertIs(is_expression(around), False, around)

    def test_wrong_paths(self):
        for path in ("A", "/", "a/", "/a", "a//b", "x" * 13, "a/b/c/d/e/f/g", "a b", "@a", " "):
            self.assertIs(is_expression(("path", path)), False, path)
            self.assertIs(is_expression(("add", A, ("path", path))), False, path)

    def test_wrong_numbers(self):
        for number in (THIRTY, -THIRTY, 0):
            self.assertIs(is_expression(("number", number)), True)
        for number in (THIRTY + 1, -THIRTY - 1, 10 ** 31):
            self.assertIs(is_expression(("number", number)), False)
            self.assertIs(is_expression(("mul", ("number", number), A)), False)

    def test_offsets(self):
        for offsets in ((), (0,), (THIRTY, -THIRTY), (1, 2, 3, 4), (1, 2, 3, 4, 5)):
            self.assertIs(is_expression(("shift", A, offsets)), True)


class TextTests(unittest.TestCase):
    def test_the_example(self):
        expression = ("add", ("path", "a/b"), ("shift", ("path", "a/b"), (-1, 0)))
        self.assertEqual(format_expression(expression), "( add @a/b ( shift @a/b -1 0 ) )")

    def test_there_and_back(self):
        for text, expression in GOOD.items():
            self.assertEqual(format_expression(expression), text)
            self.assertEqual(parse_expression(text), expression)
            self.assertEqual(parsed(text), expression)

    def test_random_ones_there_and_back(self):
        choose = random.Random(300)
        for _ in range(400):
            expression = random_expression(choose, choose.randrange(1, 8))
            text = text_of(expression)
            self.assertEqual((format_expression(expression), parse_expression(text)), (text, expression))

    def test_deep_ones_there_and_back(self):
        for name in list(PARTS) + ["shift"]:
            self.assertEqual(parse_expression(text_of(tower(12, name))), tower(12, name))
            for levels in (13, 60, 3000):
                self.refused(deep_text(levels, name))

    def refused(self, text):
        self.assertEqual(error_of(lambda: parse_expression(text)), (InvalidExpression, {}), text[:100])

    def check(self, text):
        due = parsed(text)
        if due is None:
            self.refused(text)
        else:
            self.assertEqual(parse_expression(text), due, text)
        return due is None

    def test_texts_that_are_refused(self):
        for text in [
            "", " ", "  ", "a", "@A", "@a/", "@/", "@@a", "@ a", "@a @b", "1 2", "01", "-0", "+1", "00", "-01", "--1", "1-", "x1", "0x1",
            "1.0", "1_0", "9" * 31, "-" + "9" * 31, "1" + "0" * 30, "(", ")", "( )", "()", "( add )", "( add @a )", "( add @a 1",
            "( add @a 1 2 )", "add @a 1", "(add @a 1)", "( add @a 1)", "( add @a, 1 )", "( plus @a 1 )", "( Add @a 1 )",
            "( add @a 1 ) )", "( add @a 1 ) 1", "( add @a 1 ) @a", "( pick @a 1 )", "( pick @a 1 1 1 )", "( shift )",
            "( shift 1", "( shift @a 01 )", "( shift @a -0 )", "( shift @a +1 )", "( shift @a @a )", "( shift @a 1 @a )",
            "( shift 1 ( add 1 1 ) )", "( shift @a ( ) )", "( shift @a 1 ) 1", "( path @a )", "( number 1 )", "( path a )", "( @a )", "( 1 )",
            "( ( add @a 1 ) )", "@a ", " @a", "1 ", " 1", "( add  @a 1 )", "( add @a 1 ) ", " ( add @a 1 )", "( add @a -0 )",
            "@" + "x" * 13, "@a/b/c/d/e/f/g", "@a//b", "(shift @a 1 )", "( shift @a 1.0 )", "( add add @a 1 )",
        ]:
            self.assertIsNone(parsed(text), text)
            self.refused(text)

    def test_integers_of_more_than_thirty_digits(self):
        # Python itself refuses to read integers of more than 4300 digits.
        for digits in (31, 32, 100, 4300, 4301, 5000):
            for word in ("1" * digits, "9" * digits, "-" + "1" + "0" * (digits - 1)):
                for text in (
                    word, f"( add @a {word} )", f"( shift {word} 0 )", f"( shift @a {word} )", f"( shift @a {word} 0 )", f"( shift @a 0 {word} )",
                    f"( shift @a 0 {word} 0 )", f"( add 1 ( shift ( shift @a 1 ) {word} ) )", f"( shift @a 0 {word}", f"( shift @a 0{word} )",
                ):
                    self.assertIsNone(parsed(text))
                    self.refused(text)

    def test_words_left_out_doubled_and_exchanged(self):
        others = ["(", ")", "@a", "@", "@A", "0", "-0", "+1", "01", "9" * 31, "add", "pick", "shift", "path", "x", ""]
        refused = 0
        for text in GOOD:
            words = text.split(" ")
            for at in range(len(words)):
                puts = [[], [words[at]] * 2] + [[other] for other in others] + [[words[at], other] for other in others]
                if at + 1 < len(words):
                    puts.append([words[at + 1], words[at]] + words[at + 2:])
                for put in puts:
                    behind = [] if len(put) > 2 else words[at + 1:]
                    refused += self.check(" ".join(words[:at] + put + behind))
        self.assertTrue(refused > 1000)

    def test_a_space_more_and_a_sign_less_or_other(self):
        for text in GOOD:
            for at in range(len(text) + 1):
                self.refused(text[:at] + " " + text[at:] if text[at:at + 1] in (" ", "") else text[:at] + "  " + text[at:])
                self.check(text[:at] + " " + text[at:])
                self.check(text[:at] + text[at + 1:])
                for sign in "0@(-":
                    self.check(text[:at] + sign + text[at:])

    def test_a_word_behind_it(self):
        for text in GOOD:
            for word in ("1", "@a", ")", "(", "x", "-", "add", ""):
                self.refused(text + " " + word)

    def test_texts_end_at_each_place(self):
        for text in GOOD:
            words = text.split(" ")
            for count in range(1, len(words)):
                self.refused(" ".join(words[:count]))


def deep_text(levels, name):
    """The text of `tower(levels, name)`, which may be too deep to be gone into."""
    before = {"pick": "( pick 1 1 "}.get(name, f"( {name} ")
    behind = {"pick": " )", "shift": " 1 )"}.get(name, " 1 )")
    return before * (levels - 1) + "@a" + behind * (levels - 1)


if __name__ == "__main__":
    unittest.main()
