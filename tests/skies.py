"""Pictures and lists that several tests use."""


class Untouched(list):
    """A list that fails when it is changed, even if it would be put back afterwards."""

    def refuse(self, *args, **kwargs):
        raise AssertionError("what is handed in was changed")

    __setitem__ = __delitem__ = __iadd__ = __imul__ = refuse
    append = extend = insert = pop = remove = clear = sort = reverse = refuse


def picture(count, seed, below=8192):
    """Some stars strewn over the chip, the same ones each time."""
    numbers = []
    state = seed
    for _ in range(2 * count):
        state = (state * 1103515245 + 12345) % 2 ** 31
        numbers.append((state >> 8) % below)
    return numbers


def moved(places, right, up):
    return [number + (up if k % 2 else right) for k, number in enumerate(places)]


def turned(places, top):
    """The picture turned by a quarter: (x, y) comes to lie at (top - y, x)."""
    answer = []
    for k in range(0, len(places), 2):
        answer.extend([top - places[k + 1], places[k]])
    return answer


def mirrored(places, top):
    return [number if k % 2 else top - number for k, number in enumerate(places)]


def sixes(answer):
    """The triangles of an answer of tm_triangles."""
    return [tuple(answer[k:k + 6]) for k in range(1, len(answer), 6)]


def first_difference(answer, expected):
    """Where two lists differ first, or None; unlike unittest's own way, quick for long lists too."""
    if len(answer) != len(expected):
        return f"{len(answer)} numbers in place of {len(expected)}"
    for k, (one, other) in enumerate(zip(answer, expected)):
        if one != other:
            return f"at {k}: {one} in place of {other}"
    return None
