"""An engine that answers questions and keeps the plans by which it did."""

from failsalike.facts import fact_holds
from failsalike.plans import chosen
from failsalike.questiontexts import show_question
from failsalike.runs import Run


class Engine:
    """Answers questions on a store, whatever is made, put and taken there."""

    def __init__(self, store):
        self._store = store
        # By the texts of questions, which tell them from one another: the plan of the last call.
        self._plans = {}
        self._choices = 0

    def ask(self, question):
        """The outcome of the written run."""
        text = show_question(question)
        plan = self._plans.get(text)
        if plan is None or not all([fact_holds(self._store, fact) for fact in plan[2]]):
            plan = chosen(self._store, question)
            self._plans[text] = plan
            self._choices += 1
        # What was chosen is accepted, and the tables of a question never change.
        run = Run(self._store, question, plan, trusted=True)
        return run.outcome()

    @property
    def choices(self):
        """How often a plan was chosen."""
        return self._choices
