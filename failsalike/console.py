"""A console: a store, a question and a run, and commands for them."""

from failsalike.commands import dotted, number_in, show_outcome, show_rows, table_in, value_in, words_of
from failsalike.errors import InvalidCommand, InvalidText, NoGoal, NoRun, NothingAsked
from failsalike.goals import goals_of
from failsalike.guards import guarded
from failsalike.ledgers import can_fail
from failsalike.plans import chosen
from failsalike.questiontexts import read_question, show_question
from failsalike.runs import Run
from failsalike.stores import Store
from failsalike.written import outcome

# How many numbers stand behind these words.
OF_QUESTIONS = {"written": 0, "goals": 0, "omitted": 0, "run": 0, "guard": 0, "never": 1}
OF_RUNS = {"step": 2, "told": 0, "frontier": 0, "bound": 0, "rest": 0}


class Console:
    """A console, at first without tables, question and run."""

    def __init__(self):
        self._store = Store()
        self._question = None
        self._run = None

    def say(self, line):
        """Executes a command and returns its answer."""
        words = words_of(line)
        if words[0] in OF_QUESTIONS or words[0] in OF_RUNS:
            numbers = [number_in(word) for word in words[1:]]
            return self._answer(words[0], numbers)
        if words[0] == "ask":
            return self._ask(" ".join(words[1:]))
        if words[0] == "make":
            name, columns, keys, indexes = table_in(words[1:])
            self._store.make(name, columns, keys=keys, indexes=indexes)
            return "ok"
        if words[0] == "put" and len(words) > 2:
            values = [value_in(word) for word in words[2:]]
            return str(self._store.put(words[1], *values))
        if words[0] == "take" and len(words) == 3:
            number = number_in(words[2])
            self._store.take(words[1], number)
            return "ok"
        raise InvalidCommand()

    def _ask(self, text):
        """Takes a question, for which there is no run yet."""
        try:
            question = read_question(self._store.schema, text)
        except InvalidText:
            raise InvalidCommand() from None
        self._question = question
        self._run = None
        return "ok"

    def _answer(self, word, numbers):
        """Answers a command with numbers that needs a question or a run."""
        many = OF_RUNS[word] if word in OF_RUNS else OF_QUESTIONS[word]
        if len(numbers) != many:
            raise InvalidCommand()
        if word in OF_RUNS:
            if self._run is None:
                raise NoRun()
            return answer_of_run(self._run, self._question, word, numbers)
        if self._question is None:
            raise NothingAsked()
        if word == "run":
            plan = chosen(self._store, self._question)
            self._run = Run(self._store, self._question, plan, trusted=True)
            return "ok"
        return answer_of_question(self._store, self._question, word, numbers)


def answer_of_run(run, question, word, numbers):
    """The answer to a command about a run."""
    if word == "step":
        made = run.step(numbers[0], numbers[1])
        return "none" if made is None else f"{made[0]} {made[1]}"
    if word == "told":
        return show_rows(run.told)
    if word == "frontier":
        return dotted(run.frontier)
    if word == "bound":
        return dotted(run.bound)
    rows, failure = run.outcome()
    return show_outcome(rows, failure)


def answer_of_question(store, question, word, numbers):
    """The answer to a command about a question."""
    if word == "written":
        rows, failure = outcome(store, question)
        return show_outcome(rows, failure)
    if word == "goals":
        return " ".join(["match" if place == () else dotted(place) for place in goals_of(question)])
    if word == "omitted":
        omitted = [str(goal) for goal, _ in chosen(store, question)[1]]
        return "none" if omitted == [] else " ".join(omitted)
    if word == "guard":
        return show_question(guarded(question))
    goal = numbers[0]
    if not 1 <= goal < len(goals_of(question)):
        raise NoGoal(goal)
    word, _ = can_fail(store.schema, question, goal)
    return word
