"""The console: each command, right and broken, beside the functions."""

import random
import unittest

from failsalike import errors
from failsalike.console import Console
from failsalike.errors import (
    BadRow, BadTable, InvalidCommand, KeyTaken, NameTaken, NoCourse, NoGoal, NoQuestion, NoRow, NoRun, NoTable,
    NothingAsked, NotPlain,
)
from failsalike.goals import goals_of
from failsalike.guards import guarded
from failsalike.ledgers import can_fail
from failsalike.plans import chosen
from failsalike.questiontexts import show_question
from failsalike.runs import Run
from failsalike.stores import Store
from failsalike.storetexts import show_store
from tests.chance import all_kinds, some_question, some_schema, some_store
from tests.oracle import oracle_outcome
from tests.samples import anything

R = 10**12
OF_QUESTIONS = ("written", "goals", "omitted", "run", "guard", "never 1")
OF_RUNS = ("step 0 0", "told", "frontier", "bound", "rest")
ALL = ("make b y:number", "put t 3", "take t 0", "ask from a in t tell a.x", *OF_QUESTIONS, *OF_RUNS)


def value_text(value):
    return "nothing" if value is None else f'"{value}"' if isinstance(value, str) else str(value)


def rows_text(rows):
    return " / ".join(" ".join(map(value_text, values)) for _, values in rows) if rows else "no rows"


def outcome_text(outcome):
    rows, failure = outcome
    if failure is None:
        return rows_text(rows) + " ; end"
    word, place, numbers = failure
    return f"{rows_text(rows)} ; {word} at {'.'.join(map(str, place))} by {'.'.join(map(str, numbers))}"


def dotted(combination):
    return "none" if combination is None else ".".join(map(str, combination))


def commands_of(store):
    """Commands that make a store, but for gaps between the numbers of its rows."""
    lines = []
    for name, columns, keys, indexes in store.schema:
        words = ["make", name] + [f"{column}:{'|'.join(kinds)}" for column, kinds in columns]
        lines.append(" ".join(words + [f"key {key}" for key in keys] + [f"index {index}" for index in indexes]))
        lines += [" ".join(["put", name, *map(value_text, values)]) for _, values in store.rows(name)]
    return lines


class Saying(unittest.TestCase):
    def setUp(self):
        self.console = Console()

    def say(self, line, answer="ok"):
        self.assertEqual(self.console.say(line), answer, line)

    def raises(self, line, error, **attributes):
        """Says what raises; afterwards everything is as before."""
        before = self.state()
        with self.assertRaises(error, msg=line) as caught:
            self.console.say(line)
        self.assertIs(type(caught.exception), error, line)
        for name, value in attributes.items():
            self.assertEqual(getattr(caught.exception, name), value)
        self.assertEqual(self.state(), before, line)

    def state(self):
        """What can be seen without changing anything."""
        seen = []
        for line in ("written", "goals", "omitted", "guard", "told", "frontier", "bound"):
            try:
                seen.append(self.console.say(line))
            except errors.FailsError as error:
                seen.append(type(error))
        return seen

    def make(self):
        for line in ("make t x:number|word key x index x", "make u y:nothing|number|word"):
            self.say(line)
        self.say("put t 3", "0")
        self.say('put t "a"', "1")
        self.say("put u nothing", "0")

    def ask(self):
        self.make()
        self.say("ask from a in t where (a.x < 5) tell a.x")

    def begin(self):
        self.ask()
        self.say("run")


class Forms(Saying):
    def test_the_examples(self):
        self.say("make t x:number|word index x")
        self.say("put t 3", "0")
        self.say('put t "a"', "1")
        self.say("ask from a in t where (a.x < 5) tell a.x")
        self.say("written", "3 ; kind at 1 by 1")
        self.say("goals", "match 1")
        self.raises("order", InvalidCommand)
        self.assertEqual(self.console.say(line="goals"), "match 1")

    def test_values_that_are_no_commands(self):
        for prepare in (lambda: None, self.ask, self.begin):
            self.setUp()
            prepare()
            for thing in anything() + [b"goals", ["goals"], ("goals",), {"goals": 1}]:
                if thing not in ("goals",):
                    self.raises(thing, InvalidCommand)

    def test_broken_lines(self):
        for prepare in (lambda: None, self.ask, self.begin):
            self.setUp()
            prepare()
            for line in ALL:
                words = line.split(" ")
                for broken in (
                    f" {line}", f"{line} ", line.upper(), line.capitalize(), f"{line}\n", f"\n{line}",
                    line.replace(" ", "  ", 1) + ("" if " " in line else "  "), line.replace(" ", "\t", 1) + "\t",
                    f"{words[0]}x {' '.join(words[1:])}", words[0][:-1], f"{line} {line}", f"{line} 0 0 0 x",
                ):
                    self.raises(broken, InvalidCommand)
            for line in (*OF_QUESTIONS, *OF_RUNS):
                self.raises(f"{line} 1", InvalidCommand)
                self.raises(f"{line} x", InvalidCommand)
            for line in ("put  3", "take  0", "make  x:number", "put t  3", "put  t 3", "ask  from a in t tell a.x"):
                self.raises(line, InvalidCommand)
            for line in ("make", "make x", "put", "put t", "take", "take t", "ask", "never", "step", "step 0", "quit", ""):
                self.raises(line, InvalidCommand)

    def test_numbers(self):
        for prepare in (lambda: None, self.ask, self.begin):
            self.setUp()
            prepare()
            for number in ("-1", "+1", "01", "00", "-0", "1.0", "x", "1x", '"1"', "nothing", "1_0", "0x1", "True", "-"):
                for line in ("never {}", "step {} 0", "step 0 {}", "take t {}"):
                    self.raises(line.replace("{}", number), InvalidCommand)

    def test_what_needs_a_question_or_a_run(self):
        for line in OF_QUESTIONS:
            self.raises(line, NothingAsked)
        for line in OF_RUNS:
            self.raises(line, NoRun)
        self.raises("never 0", NothingAsked)
        self.raises("never 99999999999999999999", NothingAsked)
        self.raises("step 99 0", NoRun)
        self.ask()
        for line in OF_RUNS:
            self.raises(line, NoRun)
        self.say("run")
        self.say("told", "no rows")


class Tables(Saying):
    def test_make(self):
        self.say("make t x:number|word y:nothing key x key y index y")
        # Columns, and the table, may be called key and index.
        self.say("make key index:word key:number key index key key index index index key")
        self.say("make a x:nothing|number|word")
        self.say('put key "a" 3', "0")
        self.raises('put key "a" 4', KeyTaken, column="index")
        self.raises('put key "b" 3', KeyTaken, column="key")
        self.say("put t 3 nothing", "0")

    def test_forms_that_are_none(self):
        for line in (
            "make T x:number", "make abcdefghi x:number", "make t1 x:number", "make t X:number", "make t x1:number",
            "make t x", "make t x:", "make t :number", "make t x:numbers", "make t x:number|", "make t x:|number",
            "make t x:number,word", "make t x:Number", "make t x:number:word", "make t x:number||word", "make x:number",
            "make t x:number key", "make t x:number key X", "make t x:number index", "make t x:number index x1",
            "make t x:number index x key x", "make t key x x:number", "make t x:number key x y:number",
            "make t x:number unique x", "make t x:number key x index", "make t x:number key:x", "make t x:number x",
            "make t x:number key x,y", "make t x:number key x y", "make t key x", "make t index x",
        ):
            self.raises(line, InvalidCommand)

    def test_tables_that_are_none(self):
        self.say("make t x:number")
        self.raises("make t x:number", NameTaken, name="t")
        self.raises("make t x:word|number key z", NameTaken, name="t")
        for line, part in (
            ("make u x:word|number", "columns"), ("make u x:number|number", "columns"), ("make u x:number x:word", "columns"),
            ("make u a:word b:word c:word d:word e:word", "columns"), ("make u x:number key y", "keys"),
            ("make u x:number key x key x", "keys"), ("make u x:number y:number key y key x", "keys"),
            ("make u x:number index y", "indexes"), ("make u x:number index x index x", "indexes"),
            ("make u x:number|nothing key y index z", "columns"), ("make u x:number key z index z", "keys"),
        ):
            self.raises(line, BadTable, part=part)
            self.raises("put u 3", NoTable, name="u")

    def test_put(self):
        self.say("make t x:nothing|number|word y:number key y")
        self.say("put t nothing 0", "0")
        self.say(f"put t {R} {-R}", "1")
        self.say('put t "zzzzzzzz" -7', "2")
        for value in (
            "Nothing", "none", "cup", '"Cup"', '""', '"', '"a', 'a"', '"abcdefghi"', '"a"b', "'a'", "01", "-0", "+1", "1.5",
            str(R + 1), str(-R - 1), "9" * 1900, "--1", "-", "1-", '"a b"', '"a\n"', "True", "None", "()", '"nothing',
        ):
            self.raises(f"put t {value} 5", InvalidCommand)
            self.raises(f"put zz {value}", InvalidCommand)
        for table in ("u", "T", "tt", "1", '"t"', "t\n", "\u00e4", "x:number", "abcdefghijkl"):
            self.raises(f"put {table} 3", NoTable, name=table)
            self.raises(f"take {table} 3", NoTable, name=table)
        self.raises("put t 3", BadRow, column=2)
        self.raises("put t 3 4 5", BadRow, column=2)
        self.raises("put t 3 nothing", BadRow, column=1)
        self.raises("put t 3 0", KeyTaken, column="y")
        self.say("put t 3 3", "3")

    def test_take(self):
        self.make()
        self.say("take t 0")
        for number in (0, 2, 10**30):
            self.raises(f"take t {number}", NoRow, number=number)
        self.say("put t 3", "2")
        self.say("take t 1")


class Questions(Saying):
    def test_ask(self):
        self.ask()
        for text in (
            "from a in t", "from a in t tell", "tell a.x", "from a in t tell a.x limit -1", "from a in t tell a.x limit 1001",
            "from  a in t tell a.x", "from a in t tell a.x ", "FROM a in t tell a.x", "from a in t where a.x tell a.x",
            "from a in t tell a.x,a.x", "from a in t tell 01", "from a in t tell a.x order", "x", "from a in t tell \"A\"",
            "from a in t where (a.x < 5 tell a.x", "from a in t tell (a.x + 1000000000001)", "from a in t\ntell a.x",
        ):
            self.raises(f"ask {text}", InvalidCommand)
        for text in (
            "from a in v tell a.x", "from a in t tell a.y", "from a in t tell b.x", "from a in t, a in t tell a.x",
            "from a in t, b in t, c in t, d in t, e in t tell a.x",
        ):
            self.raises(f"ask {text}", NoQuestion)
        self.say("written", "3 ; kind at 1 by 1")
        self.say("run")
        self.raises("ask from a in v tell a.x", NoQuestion)
        self.say("told", "no rows")
        # A question that is asked anew has no run.
        self.say("ask from a in t where (a.x < 5) tell a.x")
        self.raises("told", NoRun)

    def test_names_that_are_words_of_questions(self):
        self.say("make where limit:number|word tell:nothing index limit")
        self.say("put where 4 nothing", "0")
        self.say("ask from from in where where (from.limit < 5) tell from.limit, from.tell order from.tell limit 3")
        self.say("written", "4 nothing ; end")
        self.say("ask from step in where, run in where where (step.limit = run.limit) tell run.tell")
        self.say("run")
        self.say("step 0 0", "run 0")
        self.say("rest", "nothing ; end")

    def test_written(self):
        self.ask()
        self.say("take t 1")
        self.say("written", "3 ; end")
        self.say("put t 4", "2")
        self.say("written", "3 / 4 ; end")
        self.say("take t 0")
        self.say("take t 2")
        self.say("written", "no rows ; end")
        self.say('put t "a"', "3")
        self.say("written", "no rows ; kind at 1 by 3")
        self.say("put u 7", "1")
        self.say("ask from a in u, b in t tell a.y, b.x, (a.y + 1)")
        self.say("written", "no rows ; kind at 2.2 by 0.3")
        self.say("take u 0")
        self.say("written", '7 "a" 8 ; end')
        self.say("ask from a in u where exists (b in t : (b.x < a.y)) tell a.y")
        self.say("written", "no rows ; kind at 1.1.1 by 1.3")

    def test_goals_and_omitted(self):
        self.ask()
        self.say("goals", "match 1")
        self.say("omitted", "none")
        self.say("take t 1")
        self.say("omitted", "1")
        self.say("ask from a in t where ((a.x < 5) and (not (a.x = 3))) tell a.x, (a.x + 1)")
        self.say("goals", "match 1.1 1.2.1 2.1")
        self.say("omitted", "1 2 3")
        self.say("ask from a in t tell a.x")
        self.say("goals", "match")
        self.say("omitted", "none")

    def test_guard(self):
        self.ask()
        answer = self.console.say("guard")
        self.say("ask " + answer)
        self.say("written", "3 ; end")
        self.say("guard", self.console.say("guard"))

    def test_never(self):
        self.ask()
        self.say("never 1", "can")
        for number in (0, 2, 3, 10**20):
            self.raises(f"never {number}", NoGoal, number=number)
        self.say("ask from a in t where ((a.x is number) and (a.x < 5)) tell a.x")
        self.say("never 1", "never")
        self.say("ask from a in t, b in t where (a.x < b.x) tell a.x limit 3")
        self.raises("never 1", NotPlain)
        self.raises("never 0", NoGoal, number=0)
        self.raises("never 2", NoGoal, number=2)


class Running(Saying):
    def test_a_run(self):
        self.begin()
        self.say("frontier", "0")
        self.say("bound", "none")
        self.say("told", "no rows")
        self.say("step 0 0", "a 0")
        # Another course may still fail there.
        self.say("frontier", "1")
        self.say("told", "3")
        self.say("step 0 7", "none")
        self.say("step 1 7", "a 1")
        self.say("bound", "1")
        self.say("frontier", "none")
        self.say("rest", "3 ; kind at 1 by 1")
        for course in (2, 9, 10**15):
            self.raises(f"step {course} 0", NoCourse, number=course)
        self.say("step 1 99999999", "none")
        self.say("run")
        self.say("told", "no rows")

    def test_rows_that_are_put_while_it_goes_on(self):
        self.begin()
        self.say("take t 1")
        self.say("put t 4", "2")
        self.say("rest", "3 ; kind at 1 by 1")
        self.say("written", "3 / 4 ; end")
        self.say("run")
        self.say("rest", "3 / 4 ; end")
        self.say("told", "3 / 4")

    def test_combinations_of_several_refs(self):
        self.make()
        self.say("put u 2", "1")
        self.say("ask from a in t, b in u tell b.y limit 3")
        self.say("run")
        self.say("frontier", "0.0")
        self.say("rest", "nothing / 2 / nothing ; end")
        self.say("bound", "1.0")


class Drawn(Saying):
    def test_beside_the_functions(self):
        rng = random.Random(61)
        for _ in range(120):
            schema = some_schema(rng)
            schema = all_kinds(schema) if rng.random() < 0.5 else schema
            drawn = some_store(rng, schema, 3)
            asked = some_question(rng, schema, 2, 1)
            self.setUp()
            store = Store.of(schema)
            for line in commands_of(drawn):
                self.console.say(line)
            for name, _, _, _ in drawn.schema:
                for _, values in drawn.rows(name):
                    store.put(name, *values)
            self.say("ask " + show_question(asked))
            self.say("written", outcome_text(oracle_outcome(store, asked)))
            places = ["match" if place == () else dotted(place) for place in goals_of(asked)]
            self.say("goals", " ".join(places))
            plan = chosen(store, asked)
            self.say("omitted", " ".join(str(goal) for goal, _ in plan[1]) or "none")
            self.say("guard", show_question(guarded(asked)))
            self.check_never(rng, store, asked)
            self.say("run")
            run = Run(store, asked, plan)
            for _ in range(rng.randint(0, 12) if plan[0] else 0):
                course, worker = rng.randrange(len(plan[0])), rng.choice((0, 1, 40))
                made = run.step(course, worker)
                self.say(f"step {course} {worker}", "none" if made is None else f"{made[0]} {made[1]}")
                self.say("told", rows_text(run.told))
                self.say("frontier", dotted(run.frontier))
                self.say("bound", dotted(run.bound))
            self.say("rest", outcome_text(oracle_outcome(store, asked)))
            self.assertEqual(show_store(drawn).count("table"), len(schema))

    def check_never(self, rng, store, asked):
        goals = len(goals_of(asked))
        self.raises(f"never {goals}", NoGoal, number=goals)
        if goals == 1:
            return
        goal = rng.randrange(1, goals)
        try:
            self.say(f"never {goal}", can_fail(store.schema, asked, goal)[0])
        except (NotPlain, errors.TooGreat) as error:
            self.raises(f"never {goal}", type(error))
