"""The calls that match two pictures of one sky, and what they are made of.

Places lie in flat lists, x and y one behind the other, as they are handed in.
"""

OUT_OF_RANGE = -2
OFF_THE_CHIP = -3

PLACES_BELOW = 8192
MOST_STARS = 24
MOST_ROWS = 64
MOST_APART = 65536
SCALE = 65536

# A triangle is a tuple of six: its corners come first, so that they count from 0.
CORNERS = 3
U = 3
V = 4
LEFT = 5


def tm_triangles(s):
    """How many triangles the stars of s make, then each one's corners a, b, c, its u, v, and 1 if it's left."""
    if star_count(s) > MOST_STARS:
        return [OUT_OF_RANGE]
    if off_the_chip(s):
        return [OFF_THE_CHIP]
    return counted(triangles_of(s))


def tm_votes(e, s, t):
    """0, then for each star of s a row of its votes for each star of t, by triangles alike by e."""
    refusal = refusal_of_pictures(e, s, t)
    if refusal != 0:
        return [refusal]
    return [0] + votes_of(e, s, t)


def tm_choose(n, least, l):
    """How many pairs are chosen of the n rows of votes in l, then each one's row and column."""
    if n < 1 or n > MOST_ROWS:
        return [OUT_OF_RANGE]
    width = len(l) // n
    if width < 1 or width > MOST_ROWS:
        return [OUT_OF_RANGE]
    return counted(pairs_chosen(l, width, least))


def tm_match(e, least, s, t):
    """How many pairs are chosen of the votes of two pictures, then each one's star of s and star of t."""
    refusal = refusal_of_pictures(e, s, t)
    if refusal != 0:
        return [refusal]
    return counted(pairs_chosen(votes_of(e, s, t), star_count(t), least))


def refusal_of_pictures(e, s, t):
    """The number that refuses to match two pictures by e, or 0 if there's none."""
    if e > MOST_APART or star_count(s) > MOST_STARS or star_count(t) > MOST_STARS:
        return OUT_OF_RANGE
    if off_the_chip(s) or off_the_chip(t):
        return OFF_THE_CHIP
    return 0


def counted(found):
    """How many tuples there are, then the numbers of each."""
    answer = [len(found)]
    for one in found:
        answer.extend(one)
    return answer


def star_count(places):
    return len(places) // 2


def off_the_chip(places):
    return any([number >= PLACES_BELOW for number in places])


def squared_distance(places, i, j):
    across = places[2 * i] - places[2 * j]
    along = places[2 * i + 1] - places[2 * j + 1]
    return across * across + along * along


def turning(places, a, b, c):
    """Above 0 if a, b, c make a left triangle, below 0 if not, 0 if they lie on a line."""
    ax = places[2 * a]
    ay = places[2 * a + 1]
    bx = places[2 * b]
    by = places[2 * b + 1]
    cx = places[2 * c]
    cy = places[2 * c + 1]
    return (bx - ax) * (cy - ay) - (by - ay) * (cx - ax)


def triangle_of(places, i, j, k):
    """The corners a, b, c, then u, v and left, of the triangle of three stars; None if they make none."""
    sides = sorted([
        (squared_distance(places, j, k), i),
        (squared_distance(places, i, k), j),
        (squared_distance(places, i, j), k),
    ])
    shortest = sides[0][0]
    middle = sides[1][0]
    longest = sides[2][0]
    if shortest == middle or middle == longest:
        return None
    a = sides[2][1]
    b = sides[1][1]
    c = sides[0][1]
    turn = turning(places, a, b, c)
    if turn == 0:
        return None
    return (a, b, c, SCALE * middle // longest, SCALE * shortest // longest, 1 if turn > 0 else 0)


def triangles_of(places):
    """All triangles of the stars, by their first star, then the second, then the third."""
    count = star_count(places)
    found = []
    for i in range(count):
        for j in range(i + 1, count):
            for k in range(j + 1, count):
                triangle = triangle_of(places, i, j, k)
                if triangle is not None:
                    found.append(triangle)
    return found


def alike_to(triangle, others, e):
    """Those of the other triangles that are alike, by e, to the one told."""
    u = triangle[U]
    v = triangle[V]
    left = triangle[LEFT]
    return [other for other in others
            if other[LEFT] == left and abs(other[U] - u) <= e and abs(other[V] - v) <= e]


def votes_of(e, s, t):
    """The votes of each star of s for each of t, row by row in one flat list."""
    width = star_count(t)
    votes = [0] * (star_count(s) * width)
    others = triangles_of(t)
    for triangle in triangles_of(s):
        for other in alike_to(triangle, others, e):
            for corner in range(CORNERS):
                votes[triangle[corner] * width + other[corner]] += 1
    return votes


def pairs_chosen(votes, width, least):
    """Pairs of a row and a column, in the order in which they're chosen of rows of votes, each of them width long."""
    enough = max(least, 1)
    cells = [cell for cell in range(len(votes)) if votes[cell] >= enough]
    # Cells as great stay in their order, so that the first of them, row by row, is met first;
    # and what's out by then is passed over, so that the greatest left is always the next.
    rows_out = {}
    columns_out = {}
    pairs = []
    for cell in sorted(cells, key=lambda one: -votes[one]):
        row = cell // width
        column = cell % width
        if row not in rows_out and column not in columns_out:
            rows_out[row] = True
            columns_out[column] = True
            pairs.append((row, column))
    return pairs
