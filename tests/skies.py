"""Pictures, lists and other ways of working things out that several tests use."""
from fractions import Fraction
from math import floor


class Untouched(list):
    """A list that fails when it is changed, even if it would be put back afterwards."""

    def refuse(self, *args, **kwargs):
        raise AssertionError("what is handed in was changed")

    __setitem__ = __delitem__ = __iadd__ = __imul__ = refuse
    append = extend = insert = pop = remove = clear = sort = reverse = refuse


def picture(count, seed, below=8192):
    """Some stars strewn over the chip, the same ones each time."""
    numbers = []
    state = seed
    for _ in range(2 * count):
        state = (state * 1103515245 + 12345) % 2 ** 31
        numbers.append((state >> 8) % below)
    return numbers


def moved(places, right, up):
    return [number + (up if k % 2 else right) for k, number in enumerate(places)]


def turned(places, top):
    """The picture turned by a quarter: (x, y) comes to lie at (top - y, x)."""
    answer = []
    for k in range(0, len(places), 2):
        answer.extend([top - places[k + 1], places[k]])
    return answer


def mirrored(places, top):
    return [number if k % 2 else top - number for k, number in enumerate(places)]


def sixes(answer):
    """The triangles of an answer of tm_triangles."""
    return [tuple(answer[k:k + 6]) for k in range(1, len(answer), 6)]


def first_difference(answer, expected):
    """Where two lists differ first, or None; unlike unittest's own way, quick for long lists too."""
    if len(answer) != len(expected):
        return f"{len(answer)} numbers in place of {len(expected)}"
    for k, (one, other) in enumerate(zip(answer, expected)):
        if one != other:
            return f"at {k}: {one} in place of {other}"
    return None


def paired(places, partners):
    """Pairs of four numbers of the places of two lists."""
    answer = []
    for k in range(0, len(places), 2):
        answer.extend(places[k:k + 2] + partners[k:k + 2])
    return answer


def nearest(quotient):
    return floor(quotient + Fraction(1, 2))


def fit_by_fractions(ps):
    """The least squares worked out in another way, with fractions, about the middle of the places and partners.

    Turned and widened by p + q i, then moved by (r, t): p, q, r, t; None if all places are the same.
    """
    pairs = [ps[k:k + 4] for k in range(0, len(ps), 4)]
    if all(pair[:2] == pairs[0][:2] for pair in pairs):
        return None
    mx, my, mu, mv = [Fraction(sum(numbers), len(pairs)) for numbers in zip(*pairs)]
    squares = sum((x - mx) ** 2 + (y - my) ** 2 for x, y, u, v in pairs)
    p = sum((x - mx) * (u - mu) + (y - my) * (v - mv) for x, y, u, v in pairs) / squares
    q = sum((x - mx) * (v - mv) - (y - my) * (u - mu) for x, y, u, v in pairs) / squares
    return p, q, mu - p * mx + q * my, mv - q * mx - p * my


def carried_by_fractions(fit, x, y):
    p, q, r, t = fit
    return nearest(p * x - q * y + r), nearest(q * x + p * y + t)
