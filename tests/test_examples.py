"""The examples of the interface for atoms, papers, ledgers, paths, plans, runs, the engine and the console."""

import unittest

from tests.shop import NAME, ONE, PRICE, REFS, SOLD, TWO, shop

EXAMPLES = '''
>>> from failsalike.atoms import contradiction, settled, solution
>>> A, B = ("a", "x"), ("b", "x")
>>> FRAME = ((A, ("number",)), (B, ("number", "word")))
>>> solution(FRAME, ("word", B, "cup"), ("most", (), A, -(10**12)))
((('a', 'x'), 1000000000000), (('b', 'x'), 'cup'))
>>> contradiction(FRAME, ("most", A, B, 3), ("kind", A, "number"), ("kind", B, "word"))
(('most', ('a', 'x'), ('b', 'x'), 3), ('kind', ('b', 'x'), 'word'))
>>> [settled(FRAME, (("most", A, B, -1),), ("most", B, A, 0)), settled(FRAME, (), ("kind", A, "number"))]
[False, True]
>>> from failsalike.papers import paper_holds
>>> [paper_holds(SHOP.schema, ONE, 1, (), ("end",)), paper_holds(SHOP.schema, ONE, 2, (), ("end",))]
[True, False]
>>> from failsalike.ledgers import can_fail, shapes_of
>>> [shapes_of(ONE), can_fail(SHOP.schema, ONE, 1)[0], can_fail(SHOP.schema, ONE, 2)[0]]
[((('item', 1), ('sale', 1)),), 'never', 'can']
>>> from failsalike.paths import cost, fetched
>>> COURSE = ((2,), ("i", "s"), (("index", "price", (1, 2), ("fails",)), ("rows",)))
>>> [fetched(SHOP, ONE, COURSE, ()), fetched(SHOP, ONE, COURSE, (("i", "item", 2),)), cost(SHOP, ONE, COURSE)]
[(1, 2), (0, 1), 6]
>>> from failsalike.plans import chosen, plan_holds
>>> REST = ((0, 1), ("i", "s"), (("rows",), ("rows",)))
>>> [plan_holds(SHOP.schema, ONE, ((REST, COURSE), (), ())), plan_holds(SHOP.schema, ONE, ((COURSE,), (), ()))]
[True, False]
>>> chosen(SHOP, ONE)[0][0]
((0,), ('i', 's'), (('index', 'price', (1, 2), ('true',)), ('rows',)))
>>> [chosen(SHOP, ONE)[0][1] == COURSE, chosen(SHOP, ONE)[1][0][0], chosen(SHOP, ONE)[2]]
[True, 1, ()]
>>> from failsalike.runs import Run
>>> run = Run(SHOP, ONE, ((REST, COURSE), (), ()))
>>> [run.step(1), run.step(1), run.frontier, run.bound, run.told]
[('i', 1), ('s', 0), (0, 0), None, ()]
>>> [run.outcome(), run.ended, run.bound]
[((((0, 0), ('cup',)),), ('kind', (1, 2), (2, 1))), True, (2, 1)]
>>> from failsalike.engine import Engine
>>> engine = Engine(SHOP)
>>> [engine.ask(ONE)[1], engine.ask(TWO)[1], engine.ask(ONE)[1], engine.choices]
[('kind', (1, 2), (2, 1)), ('kind', (1, 1), (1, 0)), ('kind', (1, 2), (2, 1)), 2]
>>> from failsalike.console import Console
>>> console = Console()
>>> [console.say("make t x:number|word index x"), console.say("put t 3"), console.say('put t "a"')]
['ok', '0', '1']
>>> [console.say("ask from a in t where (a.x < 5) tell a.x"), console.say("written"), console.say("goals")]
['ok', '3 ; kind at 1 by 1', 'match 1']
>>> console.say("order")
raises InvalidCommand
'''


class Examples(unittest.TestCase):
    def test_examples(self):
        names = {"SHOP": shop(), "NAME": NAME, "PRICE": PRICE, "SOLD": SOLD, "REFS": REFS, "ONE": ONE, "TWO": TWO}
        lines = EXAMPLES.strip().split("\n")
        for at, line in enumerate(lines):
            if line.startswith(">>> "):
                after = lines[at + 1] if at + 1 < len(lines) else ">>> "
                self.assertEqual(self.answer(line[4:], names), "" if after.startswith(">>> ") else after, line)

    def answer(self, code, names):
        try:
            return repr(eval(code, names))
        except SyntaxError:
            exec(code, names)
            return ""
        except Exception as error:
            return f"raises {type(error).__name__}"
