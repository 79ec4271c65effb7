"""The desk's answers to the words of a line; what is no such line is refused with NoText."""

from partmill.bests import best
from partmill.byfields import by_turning
from partmill.costs import cost_of
from partmill.dividing import divided
from partmill.errors import NoDivisor, NoRoot, NoText, TooGreat
from partmill.fields import is_prime
from partmill.leading import led
from partmill.looking import shows_product
from partmill.multiplying import multiplied, squared, through
from partmill.parting import work_of
from partmill.resting import mixed, rests, shared
from partmill.rooting import rooted
from partmill.rows import number_of
from partmill.texts import pointed, read_number, read_row, read_work, show_row, show_work

MOST_BEST = 64
MOST_COST = 400
MOST_WORK = 24
MOST_MODULI = 40
MOST_PRICE = 10 ** 6
MOST_MODULUS = 10 ** 6 - 1
MOST_BASE = 10 ** 6
TOO_LONG = "too long"


def read_between(text, least, most):
    """The number of a text, from least to most."""
    number = read_number(text)
    if number < least or number > most:
        raise NoText("a number beyond its bounds")
    return number


def read_prime(text):
    """The prime of a text."""
    number = read_between(text, 2, MOST_MODULUS)
    if not is_prime(number):
        raise NoText("no prime")
    return number


def read_moduli(texts):
    """The moduli of texts."""
    if len(texts) == 0 or len(texts) > MOST_MODULI:
        raise NoText("moduli too few or too many")
    return tuple([read_between(text, 2, MOST_MODULUS) for text in texts])


def read_prices(texts):
    """The prices of texts."""
    if len(texts) != 5:
        raise NoText("prices too few or too many")
    return tuple([read_between(text, 0, MOST_PRICE) for text in texts])


def best_plan(kind, size_text, price_texts):
    """The best plan of a size, and its cost there."""
    if kind != "product" and kind != "square":
        raise NoText("no such kind")
    plan, costs = best(kind, read_prices(price_texts), read_between(size_text, 1, MOST_BEST))
    return plan, costs[-1]


def cost_answer(plan, n_text, m_text):
    """The count of the work for two sizes."""
    n = read_between(n_text, 1, MOST_COST)
    m = read_between(m_text, 1, MOST_COST)
    return TOO_LONG if min(n, m) > len(plan) else pointed(cost_of(plan, n, m))


def work_answer(plan, n_text, m_text):
    """The work for two sizes."""
    n = read_between(n_text, 1, MOST_WORK)
    m = read_between(m_text, 1, MOST_WORK)
    return TOO_LONG if min(n, m) > len(plan) else show_work(work_of(plan, n, m))


def takes_answer(texts):
    """Whether the looker takes a work."""
    return "yes" if shows_product(read_work(" ".join(texts))) else "no"


def times_answer(base, plan, one_text, other_text):
    """The product of two rows."""
    one = read_row(base, one_text)
    other = read_row(base, other_text)
    # Nought has no figures, so no plan is too short for it.
    return TOO_LONG if min(len(one), len(other)) > len(plan) else show_row(multiplied(base, plan, one, other))


def square_answer(base, plan, text):
    """The square of a row."""
    row = read_row(base, text)
    return TOO_LONG if len(row) > len(plan) else show_row(squared(base, plan, row))


def through_answer(base, plan, one_text, other_text):
    """The product of two rows through squares."""
    one = read_row(base, one_text)
    other = read_row(base, other_text)
    both_told = len(one) > 0 and len(other) > 0
    too_long = both_told and max(len(one), len(other)) > len(plan)
    return TOO_LONG if too_long else show_row(through(base, plan, one, other))


def rests_answer(base, text, modulus_texts):
    """The rests of a row and their digits, or two moduli that share something."""
    number = number_of(base, read_row(base, text))
    moduli = read_moduli(modulus_texts)
    places = shared(moduli)
    if places is not None:
        return f"shared {places[0]} {places[1]}"
    told = rests(moduli, number)
    return f"{pointed(told)} {pointed(mixed(moduli, told))}"


def turn_answer(base, prime_text, one_text, other_text):
    """The product of two rows by turned rows."""
    p = read_prime(prime_text)
    one = read_row(base, one_text)
    other = read_row(base, other_text)
    try:
        return show_row(by_turning(base, p, one, other))
    except NoRoot:
        return "no root"
    except TooGreat:
        return "too great"


def divide_answer(base, one_text, other_text):
    """The quotient of two rows and the rest."""
    one = read_row(base, one_text)
    other = read_row(base, other_text)
    try:
        quotient, rest, guess = divided(base, one, other)
    except NoDivisor:
        return "no divisor"
    return f"{show_row(quotient)} {show_row(rest)}"


def root_answer(base, text):
    """The root of a row and what is left."""
    told, left = rooted(base, read_row(base, text))
    return f"{show_row(told)} {show_row(left)}"


def lead_answer(base, goal_text, text):
    """A row led to another base."""
    goal = read_between(goal_text, 2, MOST_BASE)
    return show_row(led(base, goal, read_row(base, text)))
