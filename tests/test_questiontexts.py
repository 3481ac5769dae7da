"""[26] and the functions of failsalike.questiontexts."""

import random
import re
import unittest

from failsalike.errors import InvalidText, NoQuestion
from failsalike.facts import Facts
from failsalike.guards import guarded
from failsalike.questiontexts import read_question, show_question
from tests import chance
from tests.samples import R, VALUES, anything
from tests.shop import NAME, ONE, PRICE, REFS, TWO, shop

SCHEMA = shop().schema
KINDS = ("nothing", "number", "word")
WIDE = tuple((name, tuple((column, KINDS) for column in "xyz"), (), ()) for name in ("t", "u", "where"))
TRUE = ("is", ("value", 1), "number")
X = ("column", "a", "x")
# Each form of [26]: parts, and how they are written in a question about `a in t`.
TERMS = (
    (X, "a.x"),
    (("value", 0), "0"),
    (("value", -12), "-12"),
    (("value", R), "1000000000000"),
    (("value", -R), "-1000000000000"),
    (("value", None), "nothing"),
    (("value", "nothing"), '"nothing"'),
    (("value", "abcdefgh"), '"abcdefgh"'),
    (("plus", X, 3), "(a.x + 3)"),
    (("plus", ("plus", X, -3), 0), "((a.x + -3) + 0)"),
    (("plus", ("value", None), -R), "(nothing + -1000000000000)"),
    (("only", ((("b", "t"),), ("less", ("column", "b", "x"), X)), ("column", "b", "y")), "only (b in t : (b.x < a.x) : b.y)"),
    (("first", ((("b", "t"), ("c", "u")), TRUE), ("plus", X, 1)), "first (b in t, c in u : (1 is number) : (a.x + 1))"),
)
CONDITIONS = (
    (("less", X, ("value", 5)), "(a.x < 5)"),
    (("most", ("value", 5), X), "(5 <= a.x)"),
    (("same", ("value", "a"), X), '("a" = a.x)'),
    (("is", X, "nothing"), "(a.x is nothing)"),
    (("is", ("value", None), "word"), "(nothing is word)"),
    (("exists", ((("b", "u"), ("c", "t")), ("not", TRUE))), "exists (b in u, c in t : (not (1 is number)))"),
    (("not", ("less", X, X)), "(not (a.x < a.x))"),
    (("and", TRUE, ("or", TRUE, TRUE)), "((1 is number) and ((1 is number) or (1 is number)))"),
    (("or", ("exists", ((("b", "t"),), TRUE)), TRUE), "(exists (b in t : (1 is number)) or (1 is number))"),
)


def ask(where=None, told=(X,), order=(), limit=None, refs=(("a", "t"),)):
    return (refs, where, told, order, limit)


class Case(unittest.TestCase):
    def both(self, question, text, schema=WIDE):
        self.assertEqual(show_question(question), text)
        got = read_question(schema, text)
        self.assertEqual((got, got.__class__), (question, tuple))
        self.assertEqual(repr(got), repr(question))

    def invalid(self, thing, schema=WIDE):
        with self.assertRaises(InvalidText):
            read_question(schema, thing)

    def no_question(self, text, schema=WIDE):
        for _ in range(2):
            with self.assertRaises(NoQuestion):
                read_question(schema, text)


class Forms(Case):
    def test_the_examples(self):
        self.both(ONE, "from i in item, s in sale where ((i.name = s.name) and (i.price < 5)) tell i.name", SCHEMA)
        self.both(TWO, "from i in item, s in sale where ((i.price < 5) and (i.name = s.name)) tell i.name", SCHEMA)

    def test_each_term(self):
        for term, text in TERMS:
            self.both(ask(told=(term,)), f"from a in t tell {text}")
            self.both(ask(("is", term, "word")), f"from a in t where ({text} is word) tell a.x")
            self.both(ask(("same", ("value", 1), term)), f"from a in t where (1 = {text}) tell a.x")
            self.both(ask(told=(("plus", term, 1), X)), f"from a in t tell ({text} + 1), a.x")

    def test_each_condition(self):
        for condition, text in CONDITIONS:
            self.both(ask(condition), f"from a in t where {text} tell a.x")
            self.both(ask(("not", condition)), f"from a in t where (not {text}) tell a.x")
            self.both(ask(("and", TRUE, condition)), f"from a in t where ((1 is number) and {text}) tell a.x")

    def test_values(self):
        for value in VALUES:
            text = "nothing" if value is None else f'"{value}"' if isinstance(value, str) else str(value)
            self.both(ask(told=(("value", value),)), f"from a in t tell {text}")

    def test_refs_told_order_and_limit(self):
        refs = (("a", "t"), ("b", "u"), ("c", "t"), ("d", "where"))
        d = ("column", "d", "z")
        self.both(ask(refs=refs), "from a in t, b in u, c in t, d in where tell a.x")
        self.both(ask(refs=refs, told=(d, X, d, d)), "from a in t, b in u, c in t, d in where tell d.z, a.x, d.z, d.z")
        self.both(ask(order=(X,)), "from a in t tell a.x order a.x")
        self.both(ask(order=(X, X, X, X)), "from a in t tell a.x order a.x, a.x, a.x, a.x")
        for limit in (0, 1, 10, 999, 1000):
            self.both(ask(limit=limit), f"from a in t tell a.x limit {limit}")
        text = "from a in t where (1 is number) tell a.x, 1 order a.x, a.y limit 7"
        self.both(ask(TRUE, (X, ("value", 1)), (X, ("column", "a", "y")), 7), text)

    def test_words_of_the_language_as_names(self):
        words = ("from", "in", "where", "tell", "order", "limit", "only", "first", "exists", "not", "and", "or", "is")
        words += ("nothing", "number", "word")
        for word in words:
            for other in words:
                schema = ((word, ((other, KINDS),), (), ()),)
                column = ("column", other, other)
                inner = (((word, word),), ("same", ("column", word, other), column))
                refs = ((other, word),)
                condition = ("and", ("not", ("less", column, ("plus", column, 1))), ("is", column, "nothing"))
                text = f"from {other} in {word} where ((not ({other}.{other} < ({other}.{other} + 1)))"
                text += f" and ({other}.{other} is nothing)) tell {other}.{other} order {other}.{other} limit 3"
                self.both((refs, condition, (column,), (column,), 3), text, schema)
                if word != other:
                    told = ("first", inner, column)
                    text = f"from {other} in {word} where exists (x in {word} : (1 is number)) tell first ({word} in {word}"
                    text += f" : ({word}.{other} = {other}.{other}) : {other}.{other})"
                    self.both((refs, ("exists", ((("x", word),), TRUE)), (told,), (), None), text, schema)

    def test_by_name(self):
        self.assertEqual(show_question(question=ONE), show_question(ONE))
        self.assertEqual(read_question(thing=show_question(ONE), schema=SCHEMA), ONE)

    def test_questions_by_chance(self):
        rng = random.Random(26)
        for _ in range(400):
            schema = chance.some_schema(rng)
            question = chance.some_question(rng, schema, most_refs=4, ordered=0.5, limited=0.5)
            self.both(question, show_question(question), schema)
            self.both(guarded(question), show_question(guarded(question)), schema)
            twice = guarded(guarded(question))
            self.both(twice, show_question(twice), schema)


NAMED, NUMBER = "[a-z]{1,8}", "(?:0|-?[1-9][0-9]{0,11}|-?1000000000000)"
REFS_RE = f"{NAMED} in {NAMED}(?:, {NAMED} in {NAMED})*"
# What was found to be a term is put down as a 1 between bars, a condition as a 2.
TERM = f"(?:{NAMED}[.]{NAMED}|{NUMBER}|\"{NAMED}\"|nothing|[|]1[|])"
RULES = (
    (rf"[(]{TERM} [+] {NUMBER}[)]", "|1|"),
    (rf"(?:only|first) [(]{REFS_RE} : [|]2[|] : {TERM}[)]", "|1|"),
    (rf"[(]{TERM} (?:<|<=|=) {TERM}[)]", "|2|"),
    (rf"[(]{TERM} is (?:nothing|number|word)[)]", "|2|"),
    (r"[(]not [|]2[|][)]", "|2|"),
    (r"[(][|]2[|] (?:and|or) [|]2[|][)]", "|2|"),
    (rf"exists [(]{REFS_RE} : [|]2[|][)]", "|2|"),
)
COLUMN = f"{NAMED}[.]{NAMED}"
LIMIT = "(?:0|[1-9][0-9]{0,2}|1000)"
WHOLE = f"from {REFS_RE}(?: where [|]2[|])? tell {TERM}(?:, {TERM})*(?: order {COLUMN}(?:, {COLUMN})*)?(?: limit {LIMIT})?"


def is_text(text):
    """[26] once more: what is enclosed in the innermost parentheses is replaced by what it is."""
    depths = [text[: at + 1].count("(") - text[:at].count(")") for at, sign in enumerate(text) if sign == "("]
    if "|" in text or max(depths, default=0) > 80:
        return False
    before = None
    while before != text:
        before = text
        for pattern, found in RULES:
            text = re.sub(pattern, found, text)
    return re.fullmatch(WHOLE, text) is not None


SAMPLES = (
    "from a in t tell a.x",
    "from a in t, b in u where ((not (a.x <= -5)) or exists (c in t : (c.x is word))) tell b.z, \"cup\" order a.y limit 12",
    "from a in t tell only (b in t, c in u : (b.x = \"w\") : (c.x + -10)), first (d in t : (d.x < 0) : nothing)",
)


class WrongTexts(Case):
    def test_signs_left_out_doubled_and_replaced(self):
        for text in SAMPLES:
            question = read_question(WIDE, text)
            for at in range(len(text)):
                near = [text[:at] + text[at + 1 :], text[:at] + text[at] + text[at:]]
                near += [text[:at] + sign + text[at + 1 :] for sign in ' (),.:"<=+-05az\nA~']
                near += [text[:at] + sign + text[at:] for sign in ' (),.:"<=+-0a\n']
                for other in near:
                    self.settle(text, question, other)

    def settle(self, text, question, other):
        """Another text is refused, or it is the text of another question."""
        try:
            got = read_question(WIDE, other)
        except InvalidText:
            self.assertFalse(is_text(other), other)
            return
        except NoQuestion:
            self.assertTrue(is_text(other), other)
            return
        self.assertTrue(is_text(other), other)
        self.assertEqual(show_question(got), other)
        self.assertEqual(got == question, text == other)

    def test_pieces_exchanged(self):
        rng = random.Random(7)
        pieces = [re.findall(r"[a-z]+|-?[0-9]+| |[^a-z0-9 ]", text) for text in SAMPLES]
        for _ in range(6000):
            number = rng.randrange(len(pieces))
            some = list(pieces[number])
            for _ in range(rng.randint(1, 2)):
                some[rng.randrange(len(some))] = rng.choice(rng.choice(pieces))
            self.settle(SAMPLES[number], read_question(WIDE, SAMPLES[number]), "".join(some))

    def test_ends(self):
        for text in SAMPLES:
            for at in range(len(text)):
                self.settle(text, read_question(WIDE, text), text[:at])
            for end in (" ", "\n", ",", ")", ".", " tell a.x", " where (1 is number)", " and", " limit", " order", "  "):
                self.invalid(text + end)
            for start in (" ", "\n", "(", "a", "from "):
                self.invalid(start + text)

    def test_blanks(self):
        for text in SAMPLES:
            for at in [at for at, sign in enumerate(text) if sign == " "]:
                for blank in ("", "  ", "\n", " \n", "_"):
                    self.invalid(text[:at] + blank + text[at + 1 :])
            self.invalid(text.replace(" ", "  "))
            self.invalid(text.upper())
            for sign in "(),.":
                for other in (f" {sign} ", f"{sign}\t", f"\n{sign}"):
                    self.invalid(text.replace(sign, other) if sign in text else text + other)

    def test_numbers(self):
        for number in ("00", "01", "-01", "-0", "--1", "+1", "1-", "-", "1_0", "1.0", "1e3", "0x1", " 1", "- 1"):
            self.invalid(f"from a in t tell {number}")
            self.invalid(f"from a in t tell (a.x + {number})")
            self.invalid(f"from a in t tell a.x limit {number}")
        for number in (R + 1, -R - 1, 10**13, 10**39, -(10**39), "9" * 1900, "-" + "9" * 1900):
            self.invalid(f"from a in t tell {number}")
            self.invalid(f"from a in t tell (a.x + {number})")
        self.invalid("from a in t tell " + "9" * 6000)

    def test_limits(self):
        for limit in ("1001", "-1", "01", "1000000", "00", "-0", "", "nothing", '"a"', "a.x", "(1 + 1)", "1, 2", "1000 "):
            self.invalid(f"from a in t tell a.x limit {limit}")

    def test_words_in_quotes(self):
        for word in ('""', '"A"', '"abcdefghi"', '"a b"', '"1"', '"a', 'a"', "'a'", '"a""b"', '" a"', '"a\n"'):
            self.invalid(f"from a in t tell {word}")

    def test_names(self):
        for name in ("", "A", "abcdefghi", "a1", "1", "a_b", '"a"', "a.b", "-"):
            self.invalid(f"from {name} in t tell 1")
            self.invalid(f"from a in {name} tell 1")
            self.invalid(f"from a in t tell {name}.x" if name != "a.b" else "from a in t tell a.b.x")
            self.invalid(f"from a in t tell a.{name}")
        self.invalid("from a in t tell a")
        self.invalid("from a in t tell number")

    def test_terms_for_conditions_and_the_other_way_about(self):
        for _, term in TERMS:
            for text in (term, f"(not {term})", f"({term} and (1 < 2))", f"((1 < 2) or {term})", f"exists (d in t : {term})"):
                self.invalid(f"from a in t where {text} tell a.x")
            self.invalid(f"from a in t tell first (d in t : {term} : a.x)")
        for _, condition in CONDITIONS:
            for text in (condition, f"({condition} + 1)", f"only (d in t : (1 < 2) : {condition})"):
                self.invalid(f"from a in t tell {text}")
            for text in (f"({condition} < 1)", f"(1 = {condition})", f"({condition} is word)", f"(1 <= {condition})"):
                self.invalid(f"from a in t where {text} tell a.x")

    def test_orders_of_other_terms_are_no_texts(self):
        for term, text in TERMS:
            if term[0] != "column":
                self.invalid(f"from a in t tell a.x order {text}")
                self.invalid(f"from a in t tell a.x order a.x, {text}")

    def test_parts_out_of_their_order_or_left_out(self):
        for text in ("", "from", "from a in t", "from a in t tell", "tell 1", "from tell 1", "from a in t where tell 1"):
            self.invalid(text)
        self.invalid("from a in t tell 1 where (1 < 2)")
        self.invalid("from a in t tell a.x limit 1 order a.x")
        self.invalid("from a in t order a.x tell 1")
        self.invalid("from a in t tell a.x order")
        self.invalid("from a in t tell a.x, order a.x")
        self.invalid("from a in t, tell a.x")
        self.invalid("from a in t tell a.x tell a.x")
        self.invalid("from a in t tell only (b in t : (1 < 2))")
        self.invalid("from a in t where exists (b in t : (1 < 2) : 1) tell 1")
        self.invalid("from a in t where exists (b in t) tell 1")
        self.invalid("from a in t where (a.x is words) tell 1")
        self.invalid("from a in t where (a.x is) tell 1")
        self.invalid("from a in t where (a.x > 1) tell 1")
        self.invalid("from a in t where (a.x == 1) tell 1")
        self.invalid("from a in t where (1 < 2 and 1 < 2) tell 1")
        self.invalid("from a in t where not (1 < 2) tell 1")
        self.invalid("from a in t where ((1 < 2)) tell 1")
        self.invalid("from a in t tell (a.x + a.x)")
        self.invalid("from a in t tell (1)")
        self.invalid("from a in t tell (a.x - 1)")

    def test_any_value(self):
        for thing in anything() + [Facts(1), shop(), SCHEMA, ONE, [show_question(ONE)], (show_question(ONE),)]:
            self.invalid(thing)


def deep_texts(deep):
    """Texts whose parentheses are nested so deep, in each way."""
    nots = "(not " * (deep - 1) + "(a.x < 1)" + ")" * (deep - 1)
    left = "(" * (deep - 1) + "(1 < 2)" + " and (1 < 2))" * (deep - 1)
    right = "((1 < 2) or " * (deep - 1) + "(1 < 2)" + ")" * (deep - 1)
    sums = "(" * deep + "a.x" + " + 1)" * deep
    inner = f"exists (b in t : {'(not ' * (deep - 2)}(b.x < 1){')' * (deep - 2)})"
    told = f"only (b in t : (1 < 2) : {'(' * (deep - 1)}a.x{' + 1)' * (deep - 1)})"
    texts = [f"from a in t where {text} tell 1" for text in (nots, left, right, inner)]
    return texts + [f"from a in t tell {text}" for text in (sums, told)]


class Parentheses(Case):
    def test_eighty_deep(self):
        for deep in (3, 79, 80):
            for text in deep_texts(deep):
                self.assertEqual(show_question(read_question(WIDE, text)), text)

    def test_deeper(self):
        for deep in (81, 82, 200, 1500):
            for text in deep_texts(deep):
                self.invalid(text)

    def test_many_beside_one_another(self):
        where = "(1 < 2)"
        for _ in range(6):
            where = f"({where} and {where})"
        text = f"from a in t where {where} tell {'(' * 79}a.x{' + 1)' * 79}"
        self.assertEqual(show_question(read_question(WIDE, text)), text)

    def test_parentheses_alone(self):
        for many in (1, 80, 81, 1500, 5000):
            for text in ("(" * many, ")" * many, "()" * many, ")" * many + "(" * many):
                self.invalid(text)
                self.invalid(f"from a in t where {text}")
                self.invalid(f"from a in t tell {text}")


class NoQuestions(Case):
    def test_too_many(self):
        refs = ", ".join(f"{alias} in t" for alias in "abcde")
        self.no_question(f"from {refs} tell a.x")
        self.no_question("from a in t tell 1, 2, 3, 4, 5")
        self.no_question("from a in t tell 1 order a.x, a.x, a.x, a.x, a.x")
        self.no_question("from a in t where exists (b in t, c in t, d in t : (1 < 2)) tell 1")
        self.no_question("from a in t tell only (b in t, c in t, d in t : (1 < 2) : 1)")
        self.no_question(f"from a in t tell {', '.join(['1'] * 300)}")

    def test_an_inner_question_within_one(self):
        inner = "exists (c in t : (1 < 2))"
        self.no_question(f"from a in t where exists (b in t : {inner}) tell 1")
        self.no_question(f"from a in t where exists (b in t : ((1 < 2) and (not {inner}))) tell 1")
        self.no_question("from a in t tell first (b in t : (1 < 2) : only (c in t : (1 < 2) : 1))")
        self.no_question("from a in t where exists (b in t : ((only (c in t : (1 < 2) : 1) + 1) < 1)) tell 1")

    def test_tables_and_columns_that_are_not_there(self):
        self.no_question("from a in tt tell 1")
        self.no_question("from a in t tell a.w")
        self.no_question("from a in t tell b.x")
        self.no_question("from a in t tell a.x order b.x")
        self.no_question("from a in t where exists (b in v : (1 < 2)) tell 1")
        self.no_question("from a in t where exists (b in t : (b.w < 2)) tell 1")
        self.no_question("from a in t where exists (b in t : (1 < 2)) tell b.x")
        self.no_question(show_question(ONE))
        self.no_question(show_question(ONE), ())

    def test_aliases_twice(self):
        self.no_question("from a in t, a in u tell 1")
        self.no_question("from a in t where exists (a in t : (1 < 2)) tell 1")
        self.no_question("from a in t where exists (b in t : (1 < 2)) tell only (b in t : (1 < 2) : 1)")

    def test_texts_are_looked_at_first(self):
        self.invalid("from a in tt tell 01")
        self.invalid("from a in t, b in t, c in t, d in t, e in t tell a.x limit 1001")
        self.invalid("from a in t tell 1, 2, 3, 4, 5 ")

    def test_the_example_of_another_schema(self):
        self.assertEqual(read_question(SCHEMA, "from i in item tell i.price"), ((("i", "item"),), None, (PRICE,), (), None))
        self.assertEqual(show_question((REFS, None, (NAME,), (), 0)), "from i in item, s in sale tell i.name limit 0")
