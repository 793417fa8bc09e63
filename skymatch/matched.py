"""The calls that match two pictures of one sky, and what they are made of.

Places lie in flat lists, x and y one behind the other, as they are handed in;
so do pairs, x and y of a place, then u and v of its partner.
"""

OUT_OF_RANGE = -2
OFF_THE_CHIP = -3
NO_FIT = -4

PLACES_BELOW = 8192
FAR_PLACES_BELOW = 65536
MOST_STARS = 24
MOST_ROWS = 64
MOST_PAIRS = 32
FEWEST_PAIRS = 2
MOST_CARRIED = 4096
MOST_FAR = 4096
MOST_PAIRED = 64
MOST_REACH = 65535
MOST_APART = 65536
SCALE = 65536
FIT_SCALE = 16384
WORDS = 4294967296

# A triangle is a tuple of six: its corners come first, so that they count from 0.
CORNERS = 3
U = 3
V = 4
LEFT = 5

# A fit is a tuple of five: what the document calls n a, n b, c, d and n g.
NA = 0
NB = 1
C = 2
D = 3
NG = 4


def tm_triangles(s):
    """How many triangles the stars of s make, then each one's corners a, b, c, its u, v, and 1 if it's left."""
    if place_count(s) > MOST_STARS:
        return [OUT_OF_RANGE]
    if off_the_chip(s):
        return [OFF_THE_CHIP]
    return counted(triangles_of(s))


def tm_votes(e, s, t):
    """0, then for each star of s a row of its votes for each star of t, by triangles alike by e."""
    refusal = refusal_of_pictures(e, s, t)
    if refusal != 0:
        return [refusal]
    return [0] + votes_of(e, s, t)


def tm_choose(n, least, l):
    """How many pairs are chosen of the n rows of votes in l, then each one's row and column."""
    if n < 1 or n > MOST_ROWS:
        return [OUT_OF_RANGE]
    width = len(l) // n
    if width < 1 or width > MOST_ROWS:
        return [OUT_OF_RANGE]
    return counted(pairs_chosen(l, width, least))


def tm_match(e, least, s, t):
    """How many pairs are chosen of the votes of two pictures, then each one's star of s and star of t."""
    refusal = refusal_of_pictures(e, s, t)
    if refusal != 0:
        return [refusal]
    return counted(pairs_chosen(votes_of(e, s, t), place_count(t), least))


def tm_fit(ps):
    """0, 4 and the four words of the pairs' fit, then how many pairs there are and how far off each one is."""
    if pair_count(ps) > MOST_PAIRS:
        return [OUT_OF_RANGE]
    if off_the_chip(ps):
        return [OFF_THE_CHIP]
    fit = fit_of(ps)
    if fit is None:
        return [NO_FIT]
    words = words_of_fit(fit)
    far_off = all_far_off(fit, ps)
    return [0, len(words)] + words + [len(far_off)] + far_off


def tm_carry(ps, xy):
    """0, then two words for each place of xy: where the pairs' fit carries it."""
    if pair_count(ps) > MOST_PAIRS or place_count(xy) > MOST_CARRIED:
        return [OUT_OF_RANGE]
    if off_the_chip(ps) or off_the_chip(xy):
        return [OFF_THE_CHIP]
    fit = fit_of(ps)
    if fit is None:
        return [NO_FIT]
    return [0] + [word(number) for number in places_carried(fit, xy)]


def tm_clean(r, ps):
    """How many pairs are left once those that fit badly, by r, have gone, then four numbers for each."""
    if r > MOST_REACH or pair_count(ps) > MOST_PAIRS:
        return [OUT_OF_RANGE]
    if off_the_chip(ps):
        return [OFF_THE_CHIP]
    left = pairs_cleaned(r, ps)
    return [pair_count(left)] + left


def tm_grow(r, ps, s, t):
    """How many pairs the fit of ps makes of two pictures' stars, by r, then each one's star of s and star of t."""
    if r > MOST_REACH or pair_count(ps) > MOST_PAIRS:
        return [OUT_OF_RANGE]
    if place_count(s) > MOST_PAIRED or place_count(t) > MOST_PAIRED:
        return [OUT_OF_RANGE]
    if off_the_chip(ps) or off_the_chip(s) or off_the_chip(t):
        return [OFF_THE_CHIP]
    fit = fit_of(ps)
    if fit is None:
        return [NO_FIT]
    return counted(pairs_grown(r, fit, s, t))


def tm_far(p, q):
    """0, then how far each place of p is, squared, from the place that stands there in q."""
    if place_count(p) > MOST_FAR or any_from(p, FAR_PLACES_BELOW) or any_from(q, FAR_PLACES_BELOW):
        return [OUT_OF_RANGE]
    return [0] + [how_far(p[k], p[k + 1], q[k], q[k + 1]) for k in range(0, len(p), 2)]


def refusal_of_pictures(e, s, t):
    """The number that refuses to match two pictures by e, or 0 if there's none."""
    if e > MOST_APART or place_count(s) > MOST_STARS or place_count(t) > MOST_STARS:
        return OUT_OF_RANGE
    if off_the_chip(s) or off_the_chip(t):
        return OFF_THE_CHIP
    return 0


def counted(found):
    """How many tuples there are, then the numbers of each."""
    answer = [len(found)]
    for one in found:
        answer.extend(one)
    return answer


def place_count(places):
    return len(places) // 2


def pair_count(pairs):
    return len(pairs) // 4


def any_from(numbers, bound):
    """Is one of the numbers not below the bound?"""
    return any([number >= bound for number in numbers])


def off_the_chip(numbers):
    return any_from(numbers, PLACES_BELOW)


def how_far(x, y, u, v):
    """How far (x, y) and (u, v) are, squared."""
    return (x - u) * (x - u) + (y - v) * (y - v)


def side_of(places, i, j):
    """How far stars i and j are, squared."""
    return how_far(places[2 * i], places[2 * i + 1], places[2 * j], places[2 * j + 1])


def turning(places, a, b, c):
    """Above 0 if a, b, c make a left triangle, below 0 if not, 0 if they lie on a line."""
    ax = places[2 * a]
    ay = places[2 * a + 1]
    bx = places[2 * b]
    by = places[2 * b + 1]
    cx = places[2 * c]
    cy = places[2 * c + 1]
    return (bx - ax) * (cy - ay) - (by - ay) * (cx - ax)


def triangle_of(places, i, j, k):
    """The corners a, b, c, then u, v and left, of the triangle of three stars; None if they make none."""
    sides = sorted([
        (side_of(places, j, k), i),
        (side_of(places, i, k), j),
        (side_of(places, i, j), k),
    ])
    shortest = sides[0][0]
    middle = sides[1][0]
    longest = sides[2][0]
    if shortest == middle or middle == longest:
        return None
    a = sides[2][1]
    b = sides[1][1]
    c = sides[0][1]
    turn = turning(places, a, b, c)
    if turn == 0:
        return None
    return (a, b, c, SCALE * middle // longest, SCALE * shortest // longest, 1 if turn > 0 else 0)


def triangles_of(places):
    """All triangles of the stars, by their first star, then the second, then the third."""
    count = place_count(places)
    found = []
    for i in range(count):
        for j in range(i + 1, count):
            for k in range(j + 1, count):
                triangle = triangle_of(places, i, j, k)
                if triangle is not None:
                    found.append(triangle)
    return found


def alike_to(triangle, others, e):
    """Those of the other triangles that are alike, by e, to the one told."""
    u = triangle[U]
    v = triangle[V]
    left = triangle[LEFT]
    return [other for other in others
            if other[LEFT] == left and abs(other[U] - u) <= e and abs(other[V] - v) <= e]


def votes_of(e, s, t):
    """The votes of each star of s for each of t, row by row in one flat list."""
    width = place_count(t)
    votes = [0] * (place_count(s) * width)
    others = triangles_of(t)
    for triangle in triangles_of(s):
        for other in alike_to(triangle, others, e):
            for corner in range(CORNERS):
                votes[triangle[corner] * width + other[corner]] += 1
    return votes


def pairs_chosen(votes, width, least):
    """Pairs of a row and a column, in the order in which they're chosen of rows of votes, each of them width long."""
    enough = max(least, 1)
    cells = [cell for cell in range(len(votes)) if votes[cell] >= enough]
    # Cells as great stay in their order, so that the first of them, row by row, is met first;
    # and what's out by then is passed over, so that the greatest left is always the next.
    rows_out = {}
    columns_out = {}
    pairs = []
    for cell in sorted(cells, key=lambda one: -votes[one]):
        row = cell // width
        column = cell % width
        if row not in rows_out and column not in columns_out:
            rows_out[row] = True
            columns_out[column] = True
            pairs.append((row, column))
    return pairs


def rounded(above, below):
    """The whole number nearest to the quotient, of two as near the greater; below is above 0."""
    return (2 * above + below) // (2 * below)


def word(number):
    return number % WORDS


def products(these, those):
    """The sum of the products of the numbers that stand at the same place of two lists."""
    return sum([these[k] * those[k] for k in range(len(these))])


def fit_of(pairs):
    """The fit of the pairs, a tuple of five, or None if there's no fit."""
    xs = pairs[0::4]
    ys = pairs[1::4]
    us = pairs[2::4]
    vs = pairs[3::4]
    n = len(xs)
    x = sum(xs)
    y = sum(ys)
    u = sum(us)
    v = sum(vs)
    g = n * (products(xs, xs) + products(ys, ys)) - x * x - y * y
    if g == 0:
        return None
    a = n * (products(xs, us) + products(ys, vs)) - x * u - y * v
    b = n * (products(xs, vs) - products(ys, us)) - x * v + y * u
    c = u * g - (a * x - b * y)
    d = v * g - (b * x + a * y)
    return (n * a, n * b, c, d, n * g)


def words_of_fit(fit):
    """How the fit turns and widens (two words, 16384 for one), then how it moves (two more)."""
    ng = fit[NG]
    return [
        word(rounded(FIT_SCALE * fit[NA], ng)),
        word(rounded(FIT_SCALE * fit[NB], ng)),
        word(rounded(fit[C], ng)),
        word(rounded(fit[D], ng)),
    ]


def carried(fit, x, y):
    """Where the fit carries a place: its x and y, which may be below 0."""
    across = fit[NA] * x - fit[NB] * y + fit[C]
    along = fit[NB] * x + fit[NA] * y + fit[D]
    return (rounded(across, fit[NG]), rounded(along, fit[NG]))


def how_far_off(fit, pairs, pair):
    """How far a pair's place, carried, is from its partner, squared."""
    to = carried(fit, pairs[4 * pair], pairs[4 * pair + 1])
    return how_far(to[0], to[1], pairs[4 * pair + 2], pairs[4 * pair + 3])


def all_far_off(fit, pairs):
    return [how_far_off(fit, pairs, pair) for pair in range(pair_count(pairs))]


def pairs_cleaned(r, pairs):
    """The pairs that are left, in order, when the one that's farthest off goes again and again, if it's too far."""
    left = list(pairs)
    while pair_count(left) > FEWEST_PAIRS:
        fit = fit_of(left)
        if fit is None:
            return left
        far_off = all_far_off(fit, left)
        farthest = max(far_off)
        if farthest <= r * r:
            return left
        goes = far_off.index(farthest)
        left = left[:4 * goes] + left[4 * goes + 4:]
    return left


def places_carried(fit, places):
    """Where the fit carries each of the places, in one flat list; its numbers may be below 0."""
    lying = []
    for k in range(place_count(places)):
        lying.extend(carried(fit, places[2 * k], places[2 * k + 1]))
    return lying


def nearest_of(places, x, y):
    """Which of the places, at least one, is the nearest to (x, y), of as near ones the first."""
    far = [how_far(places[2 * k], places[2 * k + 1], x, y) for k in range(place_count(places))]
    return far.index(min(far))


def pairs_grown(r, fit, s, t):
    """Pairs of a star of s and one of t that are, once carried, each other's nearest, and no farther than r r."""
    if len(s) == 0 or len(t) == 0:
        return []
    lying = places_carried(fit, s)
    pairs = []
    for i in range(place_count(s)):
        x = lying[2 * i]
        y = lying[2 * i + 1]
        j = nearest_of(t, x, y)
        u = t[2 * j]
        v = t[2 * j + 1]
        if nearest_of(lying, u, v) == i and how_far(x, y, u, v) <= r * r:
            pairs.append((i, j))
    return pairs
