"""The desk: answers lines by all that the mill does, and keeps a plan."""

from partmill.answers import (
    best_plan, cost_answer, divide_answer, lead_answer, rests_answer, root_answer, square_answer, takes_answer,
    through_answer, times_answer, turn_answer, work_answer,
)
from partmill.errors import NoLine, NoText
from partmill.texts import read_plan, read_words, show_plan


def answer(base, plan, words):
    """The answer to the words of a line that keeps no plan."""
    match words:
        case ["cost", n, m]:
            return cost_answer(plan, n, m)
        case ["work", n, m]:
            return work_answer(plan, n, m)
        case ["takes", *texts]:
            return takes_answer(texts)
        case ["times", one, other]:
            return times_answer(base, plan, one, other)
        case ["square", one]:
            return square_answer(base, plan, one)
        case ["through", one, other]:
            return through_answer(base, plan, one, other)
        case ["rests", one, *moduli]:
            return rests_answer(base, one, moduli)
        case ["turn", p, one, other]:
            return turn_answer(base, p, one, other)
        case ["divide", one, other]:
            return divide_answer(base, one, other)
        case ["root", one]:
            return root_answer(base, one)
        case ["lead", goal, one]:
            return lead_answer(base, goal, one)
    raise NoText("no such line")


class Desk:
    """Answers lines about rows of a base."""

    def __init__(self, base):
        self.base = base
        self.plan = (1,)

    def say(self, line):
        """The answer to a line; a plan that it tells is kept."""
        try:
            return self.answered(read_words(line, " "))
        except NoText:
            raise NoLine("the desk knows no such line") from None

    def answered(self, words):
        """The answer to the words of a line."""
        match words:
            case ["plan", text]:
                self.plan = read_plan(text)
                return "ok"
            case ["best", kind, n, *prices]:
                plan, cost = best_plan(kind, n, prices)
                self.plan = plan
                return f"{show_plan(plan)} {cost}"
        return answer(self.base, self.plan, words)
