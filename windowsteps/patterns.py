"""Patterns of steps between the points of a window.

A number a and b w is a pair (a, b). A span is a pair of numbers: from the first one on, below the second.
Windows and places are spans, and partners lie in them.
"""

LARGEST = 1000000
MOST_STEPS = 12
MOST_STEPS_LISTED = 6

NOT_AS_TOLD = -22
TOO_MANY_STEPS = -28
NO_POINT_HAS_IT = -33
NOT_A_POINT = -2


def plus(p, q):
    return (p[0] + q[0], p[1] + q[1])


def minus(p, q):
    return (p[0] - q[0], p[1] - q[1])


def partner(m, p):
    return (p[0] + m * p[1], -p[1])


def times(m, p, q):
    # w by w is 1 and m w.
    both = p[1] * q[1]
    return (p[0] * q[0] + both, p[0] * q[1] + p[1] * q[0] + m * both)


def common_divisor(one, other):
    """The largest whole number that divides both; not both are 0."""
    larger = abs(one)
    smaller = abs(other)
    while smaller > 0:
        rest = larger % smaller
        larger = smaller
        smaller = rest
    return larger


def divided(m, p, q):
    """p divided by q: a, b and the divisor, which is above 0, with nothing in common."""
    # q multiplied by its partner is a whole number, above 0 or below it.
    upper = times(m, p, partner(m, q))
    divisor = times(m, q, partner(m, q))[0]
    common = common_divisor(common_divisor(upper[0], upper[1]), divisor)
    if divisor < 0:
        common = -common
    return (upper[0] // common, upper[1] // common, divisor // common)


def is_above_zero(m, p):
    # Twice a and b w is (2 a and b m) and b r, where r by r is m m and 4. No whole number is r, nor a
    # fraction, so the two parts outweigh one another by their squares, and are equal only if both are 0.
    whole = 2 * p[0] + m * p[1]
    if whole * whole > (m * m + 4) * p[1] * p[1]:
        return whole > 0
    return p[1] > 0


def is_below(m, p, q):
    return is_above_zero(m, minus(q, p))


def lies_in(m, p, span):
    return not is_below(m, p, span[0]) and is_below(m, p, span[1])


def shared_span(m, one, other):
    """What lies in both; if nothing does, its end is not above its beginning."""
    begin = other[0] if is_below(m, one[0], other[0]) else one[0]
    end = other[1] if is_below(m, other[1], one[1]) else one[1]
    return (begin, end)


def is_empty(m, span):
    return not is_below(m, span[0], span[1])


def moved_back(span, way):
    return (minus(span[0], way), minus(span[1], way))


def number_of(z):
    return (z[0], z[1])


def span_of(x):
    return ((x[0], x[1]), (x[2], x[3]))


def length_of(span):
    return minus(span[1], span[0])


def numbers_of(values):
    return [(values[at], values[at + 1]) for at in range(0, len(values), 2)]


def are_numbers(values):
    return len(values) % 2 == 0 and all([abs(value) <= LARGEST for value in values])


def is_number(values):
    return len(values) == 2 and are_numbers(values)


def is_window(m, x):
    if m < 1 or m > 4 or len(x) != 4 or not are_numbers(x):
        return False
    length = length_of(span_of(x))
    # w by w is 1 and m w.
    return not is_below(m, length, (1, 0)) and is_below(m, length, (1, m))


def filled_by(m, rising, falling):
    """How long a span is that the places of these two steps fill."""
    return partner(m, minus(rising, falling))


def least_steps(m, length):
    """For a span as long: the least step whose partner is above 0 and the least whose partner is below 0."""
    # These two are right for length 1.
    rising = (1, 1)
    falling = (0, 1)
    # While they fill more than the span, the one that leads further aside may lead out of it from everywhere;
    # both together lead less far aside. This may go once too often; then the loop below takes it back.
    while is_below(m, length, filled_by(m, rising, falling)):
        together = plus(rising, falling)
        if is_above_zero(m, partner(m, together)):
            rising = together
        else:
            falling = together
    # While they fill less than the span, some point could take either step, so the way between their two
    # ends is a smaller one that fits.
    while is_below(m, filled_by(m, rising, falling), length):
        if is_below(m, falling, rising):
            rising = minus(rising, falling)
        else:
            falling = minus(falling, rising)
    return (rising, falling)


def step_places(m, span):
    """Each step of the points of a span with its place, from the span's beginning on."""
    pair = least_steps(m, length_of(span))
    rising = pair[0]
    falling = pair[1]
    rising_end = minus(span[1], partner(m, rising))
    falling_begin = minus(span[0], partner(m, falling))
    # Where neither fits the two together do; if they fill the span, the middle place is empty.
    return [
        (rising, (span[0], rising_end)),
        (plus(rising, falling), (rising_end, falling_begin)),
        (falling, (falling_begin, span[1])),
    ]


def steps_rising(m, length):
    """The steps of a span as long, rising."""
    pair = least_steps(m, length)
    found = [pair[0], pair[1]] if is_below(m, pair[0], pair[1]) else [pair[1], pair[0]]
    if is_below(m, length, filled_by(m, pair[0], pair[1])):
        found.append(plus(pair[0], pair[1]))
    return found


def place_of_step(places, wanted):
    for step, span in places:
        if step == wanted:
            return span
    return None


def step_from(m, places, at):
    """The step of the point whose partner is at, which lies in one of the places."""
    for step, span in places:
        if lies_in(m, at, span):
            return step
    return None


def row_from(m, window, at, k):
    """The k steps from the point on whose partner is at."""
    places = step_places(m, window)
    row = []
    here = at
    for count in range(k):
        step = step_from(m, places, here)
        row.append(step)
        here = plus(here, partner(m, step))
    return row


def place_of_pattern(m, window, pattern):
    """The pattern's place, or None if no point has it."""
    places = step_places(m, window)
    place_so_far = window
    walked = (0, 0)
    for step in pattern:
        span = place_of_step(places, step)
        if span is None:
            return None
        place_so_far = shared_span(m, place_so_far, moved_back(span, walked))
        walked = plus(walked, partner(m, step))
    if is_empty(m, place_so_far):
        return None
    return place_so_far


def longer_by_a_step(m, places, row, walked, place_so_far):
    """The pattern row with each step that may follow it: its steps, how far partners are led, and its place."""
    found = []
    for step, span in places:
        narrowed = shared_span(m, place_so_far, moved_back(span, walked))
        if not is_empty(m, narrowed):
            found.append((row + [step], plus(walked, partner(m, step)), narrowed))
    return found


def rows_of_steps(m, window, k):
    """The patterns of k steps, each a list of steps, in the order of their places."""
    places = step_places(m, window)
    # A place is cut where the places of the next step meet, and these stand in order: so its parts do too.
    found = [([], (0, 0), window)]
    for count in range(k):
        longer = []
        for row, walked, place_so_far in found:
            longer.extend(longer_by_a_step(m, places, row, walked, place_so_far))
        found = longer
    return [entry[0] for entry in found]


def place_asked_for(m, x, l):
    """0 and the place of pattern l in window x; or a refusal and None."""
    if not is_window(m, x) or not are_numbers(l):
        return (NOT_AS_TOLD, None)
    pattern = numbers_of(l)
    if len(pattern) > MOST_STEPS:
        return (TOO_MANY_STEPS, None)
    span = place_of_pattern(m, span_of(x), pattern)
    if span is None:
        return (NO_POINT_HAS_IT, None)
    return (0, span)


def answer_of(first, numbers):
    answer = [first]
    for number in numbers:
        answer.extend(number)
    return answer


def place(m, x, l):
    """0, then where the place of pattern l begins and where it ends; or a refusal."""
    asked = place_asked_for(m, x, l)
    if asked[0] != 0:
        return [asked[0]]
    return answer_of(0, asked[1])


def steps(m, k, x, z):
    """k, then the k steps from point z on; or a refusal."""
    if not is_window(m, x) or not is_number(z):
        return [NOT_AS_TOLD]
    if k > MOST_STEPS:
        return [TOO_MANY_STEPS]
    window = span_of(x)
    at = partner(m, number_of(z))
    if not lies_in(m, at, window):
        return [NOT_A_POINT]
    return answer_of(k, row_from(m, window, at, k))


def patterns(m, k, x):
    """How many patterns of k steps there are, then the steps of each; or a refusal."""
    if not is_window(m, x):
        return [NOT_AS_TOLD]
    if k > MOST_STEPS_LISTED:
        return [TOO_MANY_STEPS]
    rows = rows_of_steps(m, span_of(x), k)
    one_behind_another = []
    for row in rows:
        one_behind_another.extend(row)
    return answer_of(len(rows), one_behind_another)


def many(m, k, x):
    """How many patterns of k steps there are; or a refusal."""
    if not is_window(m, x):
        return [NOT_AS_TOLD]
    if k > MOST_STEPS:
        return [TOO_MANY_STEPS]
    return [len(rows_of_steps(m, span_of(x), k))]


def share(m, x, l):
    """0, then the share of pattern l: a, b, and what they are divided by; or a refusal."""
    asked = place_asked_for(m, x, l)
    if asked[0] != 0:
        return [asked[0]]
    answer = [0]
    answer.extend(divided(m, length_of(asked[1]), length_of(span_of(x))))
    return answer


def returns(m, x, l):
    """At how many distances the next point with pattern l is, then these, rising; or a refusal."""
    asked = place_asked_for(m, x, l)
    if asked[0] != 0:
        return [asked[0]]
    # The points that have the pattern are the points of its place, so from one to the next it is a step there.
    distances = steps_rising(m, length_of(asked[1]))
    return answer_of(len(distances), distances)


def again(m, x, z, l):
    """0, then the next point behind z that has pattern l, as z has it; or a refusal."""
    if not is_number(z):
        return [NOT_AS_TOLD]
    asked = place_asked_for(m, x, l)
    if asked[0] != 0:
        return [asked[0]]
    point = number_of(z)
    at = partner(m, point)
    # A place is a part of the window: so this refuses what is no point, too.
    if not lies_in(m, at, asked[1]):
        return [NOT_A_POINT]
    # As in returns, it is a step in the place.
    way = step_from(m, step_places(m, asked[1]), at)
    return answer_of(0, [plus(point, way)])


def alike(m, k, x, z, y):
    """1 if the k steps from point z on are those from point y on, else 0; or a refusal."""
    if not is_window(m, x) or not is_number(z) or not is_number(y):
        return [NOT_AS_TOLD]
    if k > MOST_STEPS:
        return [TOO_MANY_STEPS]
    window = span_of(x)
    at = partner(m, number_of(z))
    other = partner(m, number_of(y))
    if not lies_in(m, at, window) or not lies_in(m, other, window):
        return [NOT_A_POINT]
    return [1 if row_from(m, window, at, k) == row_from(m, window, other, k) else 0]
