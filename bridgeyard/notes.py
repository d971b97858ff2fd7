"""Plans as texts, and texts as plans."""

from bridgeyard.errors import BadText
from bridgeyard.plans import check_plan

BRIDGES = "bridges"
ROAD = "road"
LEAST_OF_BRIDGES = 1
LEAST_OF_ROAD = 4


def written(plan):
    """The text of a plan: a row of its ranks, and one for each road."""
    check_plan(plan)
    ranks, roads = plan
    rows = [_row(BRIDGES, ranks)] + [_row(ROAD, road[:4] + road[4]) for road in roads]
    return "\n".join(rows)


def _row(word, numbers):
    return " ".join([word] + [str(number) for number in numbers])


def read(text):
    """The plan that a text was written of."""
    rows = [row.split(" ") for row in text.split("\n")]
    for number, words in enumerate(rows):
        if not _is_row(number, words):
            raise BadText(number)
    ranks, *roads = [tuple([int(word) for word in words[1:]]) for words in rows]
    plan = (ranks, tuple([(*road[:4], road[4:]) for road in roads]))
    check_plan(plan)
    return plan


def _is_row(number, words):
    first, *others = words
    word, least = (ROAD, LEAST_OF_ROAD) if number else (BRIDGES, LEAST_OF_BRIDGES)
    return first == word and len(others) >= least and all([_is_number(other) for other in others])


def _is_number(word):
    if not word.isdigit() or len(word) > 2:
        return False
    # Of two figures the first one is needed, unless it is a naught.
    return len(word) == 1 or not word.startswith("0")
