"""Patterns of steps between the points of a window.

A number a and b w is a pair (a, b). A span is a pair of numbers: from the first one on, below the second.
Windows and places are spans, and partners lie in them.
"""

LARGEST = 1000000
MOST_STEPS = 12
MOST_STEPS_LISTED = 6

NOT_AS_TOLD = -22
TOO_MANY_STEPS = -28
NO_POINT_HAS_IT = -33
NOT_A_POINT = -2


def plus(p, q):
    return (p[0] + q[0], p[1] + q[1])


def minus(p, q):
    return (p[0] - q[0], p[1] - q[1])


def partner(m, p):
    return (p[0] + m * p[1], -p[1])


def is_above_zero(m, p):
    # Twice a and b w is (2 a and b m) and b r, where r by r is m m and 4. No whole number is r, nor a
    # fraction, so the two parts outweigh one another by their squares, and are equal only if both are 0.
    whole = 2 * p[0] + m * p[1]
    if whole * whole > (m * m + 4) * p[1] * p[1]:
        return whole > 0
    return p[1] > 0


def is_below(m, p, q):
    return is_above_zero(m, minus(q, p))


def lies_in(m, p, span):
    return not is_below(m, p, span[0]) and is_below(m, p, span[1])


def shared_span(m, one, other):
    """What lies in both; if nothing does, its end is not above its beginning."""
    begin = other[0] if is_below(m, one[0], other[0]) else one[0]
    end = other[1] if is_below(m, other[1], one[1]) else one[1]
    return (begin, end)


def is_empty(m, span):
    return not is_below(m, span[0], span[1])


def moved_back(span, way):
    return (minus(span[0], way), minus(span[1], way))


def span_of(x):
    return ((x[0], x[1]), (x[2], x[3]))


def length_of(span):
    return minus(span[1], span[0])


def numbers_of(values):
    return [(values[at], values[at + 1]) for at in range(0, len(values), 2)]


def are_numbers(values):
    return len(values) % 2 == 0 and all([abs(value) <= LARGEST for value in values])


def is_number(values):
    return len(values) == 2 and are_numbers(values)


def is_window(m, x):
    if m < 1 or m > 4 or len(x) != 4 or not are_numbers(x):
        return False
    length = length_of(span_of(x))
    # w by w is 1 and m w.
    return not is_below(m, length, (1, 0)) and is_below(m, length, (1, m))


def least_steps(m, length):
    """The least step whose partner is above 0 and the least whose partner is below 0."""
    # These two are right for length 1. While both partners together are shorter than the window, some
    # point could take either step, so the way between their two ends is a smaller one that fits.
    rising = (1, 1)
    falling = (0, 1)
    while is_below(m, partner(m, minus(rising, falling)), length):
        if is_below(m, falling, rising):
            rising = minus(rising, falling)
        else:
            falling = minus(falling, rising)
    return (rising, falling)


def step_places(m, window):
    """Each step with its place, from the window's beginning on."""
    pair = least_steps(m, length_of(window))
    rising = pair[0]
    falling = pair[1]
    rising_end = minus(window[1], partner(m, rising))
    falling_begin = minus(window[0], partner(m, falling))
    # Where neither fits the two together do; if they fill the window, the middle place is empty.
    return [
        (rising, (window[0], rising_end)),
        (plus(rising, falling), (rising_end, falling_begin)),
        (falling, (falling_begin, window[1])),
    ]


def place_of_step(places, wanted):
    for step, span in places:
        if step == wanted:
            return span
    return None


def step_from(m, places, at):
    """The step of the point whose partner is at, which lies in the window."""
    for step, span in places:
        if lies_in(m, at, span):
            return step
    return None


def place_of_pattern(m, window, pattern):
    """The pattern's place, or None if no point has it."""
    places = step_places(m, window)
    place_so_far = window
    walked = (0, 0)
    for step in pattern:
        span = place_of_step(places, step)
        if span is None:
            return None
        place_so_far = shared_span(m, place_so_far, moved_back(span, walked))
        walked = plus(walked, partner(m, step))
    if is_empty(m, place_so_far):
        return None
    return place_so_far


def longer_by_a_step(m, places, row, walked, place_so_far):
    """The pattern row with each step that may follow it: its steps, how far partners are led, and its place."""
    found = []
    for step, span in places:
        narrowed = shared_span(m, place_so_far, moved_back(span, walked))
        if not is_empty(m, narrowed):
            found.append((row + [step], plus(walked, partner(m, step)), narrowed))
    return found


def rows_of_steps(m, window, k):
    """The patterns of k steps, each a list of steps, in the order of their places."""
    places = step_places(m, window)
    # A place is cut where the places of the next step meet, and these stand in order: so its parts do too.
    found = [([], (0, 0), window)]
    for count in range(k):
        longer = []
        for row, walked, place_so_far in found:
            longer.extend(longer_by_a_step(m, places, row, walked, place_so_far))
        found = longer
    return [entry[0] for entry in found]


def place(m, x, l):
    """0, then where the place of pattern l begins and where it ends; or a refusal."""
    if not is_window(m, x) or not are_numbers(l):
        return [NOT_AS_TOLD]
    pattern = numbers_of(l)
    if len(pattern) > MOST_STEPS:
        return [TOO_MANY_STEPS]
    found = place_of_pattern(m, span_of(x), pattern)
    if found is None:
        return [NO_POINT_HAS_IT]
    return [0, found[0][0], found[0][1], found[1][0], found[1][1]]


def steps(m, k, x, z):
    """k, then the k steps from point z on; or a refusal."""
    if not is_window(m, x) or not is_number(z):
        return [NOT_AS_TOLD]
    if k > MOST_STEPS:
        return [TOO_MANY_STEPS]
    window = span_of(x)
    at = partner(m, (z[0], z[1]))
    if not lies_in(m, at, window):
        return [NOT_A_POINT]
    places = step_places(m, window)
    answer = [k]
    for count in range(k):
        step = step_from(m, places, at)
        answer.extend(step)
        at = plus(at, partner(m, step))
    return answer


def patterns(m, k, x):
    """How many patterns of k steps there are, then the steps of each; or a refusal."""
    if not is_window(m, x):
        return [NOT_AS_TOLD]
    if k > MOST_STEPS_LISTED:
        return [TOO_MANY_STEPS]
    rows = rows_of_steps(m, span_of(x), k)
    answer = [len(rows)]
    for row in rows:
        for step in row:
            answer.extend(step)
    return answer


def many(m, k, x):
    """How many patterns of k steps there are; or a refusal."""
    if not is_window(m, x):
        return [NOT_AS_TOLD]
    if k > MOST_STEPS:
        return [TOO_MANY_STEPS]
    return [len(rows_of_steps(m, span_of(x), k))]
