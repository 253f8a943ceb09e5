"""Walks over all things that words lead to, and states that no word tells apart."""


def walked(start, nexts):
    """Walks from the start on, in the order of the least words that lead to things.

    The function nexts returns the list of the things that the letters lead to from a thing. Returns the list of the
    things, and the list of their rows: the tuples of the numbers (the places in the list) of those next to them.
    """
    found = [start]
    numbers = {start: 0}
    rows = []
    while len(rows) < len(found):
        row = []
        nearby = nexts(found[len(rows)])
        for thing in nearby:
            if thing not in numbers:
                numbers[thing] = len(found)
                found.append(thing)
            row.append(numbers[thing])
        rows.append(tuple(row))
    return (found, rows)


def word_to(letters, rows, at):
    """Returns the least word that leads to a thing; the rows are those of a walk, in the order of the letters."""
    before = {}
    for number, row in enumerate(rows):
        for letter, then in zip(letters, row):
            before.setdefault(then, (number, letter))
    backwards = []
    while at > 0:
        at, letter = before[at]
        backwards.append(letter)
    return "".join(reversed(backwards))


def merged(rows, ends):
    """Puts together the states, in the order of a walk, that no word tells apart.

    The rows are those of a walk, and the ends tell for each state whether it is an end. Returns both for the states
    that are left, in the same order.
    """
    groups = _numbered(ends)
    many = 0
    # Each round tells at least one more group apart, until a round tells none.
    while max(groups) + 1 > many:
        many = max(groups) + 1
        groups = _numbered([(group, tuple([groups[then] for then in row])) for group, row in zip(groups, rows)])
    firsts = [groups.index(group) for group in range(many)]
    return ([tuple([groups[then] for then in rows[at]]) for at in firsts], [ends[at] for at in firsts])


def _numbered(marks):
    """Returns a number for each mark, the same one for equal marks, in the order in which they come first."""
    numbers = {}
    for mark in marks:
        numbers.setdefault(mark, len(numbers))
    return [numbers[mark] for mark in marks]
