"""The texts of reports as a grammar, read by trying everything at once; and such texts by chance."""

import reference

WEIGHTS = "vw"


def sets_as_written(columns):
    return [letters or "-" for letters in reference.sets_of(columns)]


def rules(columns):
    """For each name, the ways in which it is written, as tuples of names and texts."""
    sets = [(letters,) for letters in sets_as_written(columns)]
    return {
        "REPORT": [("BASE", "MORE")],
        "BASE": [("x",), ("(", "REPORT", "SIGN", "REPORT", ")")],
        "SIGN": [(" + ",), (" - ",)],
        "MORE": [(), (" ", "STEP", "MORE")],
        "STEP": [(word + " ", "SET") for word in ("sum", "mean", "times", "over")]
                + [(word + " ", "SET", " ", "WEIGHT") for word in ("weighed", "share")],
        "SET": sets,
        "WEIGHT": [(weight,) for weight in WEIGHTS],
    }


def unfolded(known, ways):
    """The ways to go on, each beginning with a text that is not empty, or being at its end."""
    found, left = set(), list(ways)
    while left:
        way = left.pop()
        if way and way[0] in known:
            left += [more + way[1:] for more in known[way[0]]]
        else:
            found.add(way)
    return found


def first_wrong(columns, text):
    """The number of the first character that cannot stand in a report's text, None if it is one."""
    known = rules(columns)
    ways = unfolded(known, [("REPORT",)])
    for at, character in enumerate(text):
        further = [((way[0][1:],) if way[0][1:] else ()) + way[1:] for way in ways if way and way[0][0] == character]
        if not further:
            return at
        ways = unfolded(known, further)
    return None if () in ways else len(text)


def some_part(chance, columns, many):
    """A part, made of about so many parts, with any sets, whatever the levels are."""
    if many <= 1:
        return ("start",)
    word = chance.choice(("sum", "mean", "weighed", "share", "times", "over", "plus", "minus", "plus"))
    if word in ("plus", "minus"):
        first = chance.randint(1, max(1, many - 2))
        return (word, some_part(chance, columns, first), some_part(chance, columns, many - 1 - first))
    step = (word, some_part(chance, columns, many - 1), chance.choice(reference.sets_of(columns)))
    return step + ((chance.choice(WEIGHTS),) if word in ("weighed", "share") else ())


def text_of(part):
    """The text of a part."""
    if part[0] == "start":
        return "x"
    if part[0] in ("plus", "minus"):
        return f"({text_of(part[1])} {'+-'[part[0] == 'minus']} {text_of(part[2])})"
    return " ".join([text_of(part[1]), part[0], part[2] or "-", *part[3:]])


def in_order(part):
    """The parts in the order in which their texts end."""
    found = []
    for item in part[1:]:
        if isinstance(item, tuple):
            found += in_order(item)
    return found + [part]


def wrong_level(scheme, part):
    """The letters of the first BadLevel in the order in which the steps end, None if there is none."""
    for one in in_order(part):
        if one[0] in ("plus", "minus"):
            first, second = reference.level(scheme, one[1]), reference.level(scheme, one[2])
            if first != second:
                return second
        elif one[0] in ("sum", "mean", "weighed", "share"):
            if not set(reference.closure(scheme, one[2])) <= set(reference.level(scheme, one[1])):
                return one[2]
    return None
