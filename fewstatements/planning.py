"""First what can be made: the statements of changed rows in an order in which each can be made."""

from fewstatements.making import copied_rows, make


class Outcome:
    """The rows written in two steps, the statements made, and the rows for which one is left."""

    def __init__(self, chosen, made, left):
        self.chosen = chosen
        self.made = made
        self.left = left


def is_split(ways, split):
    """Whether these are rising numbers of rows that can be written in two steps."""
    before = -1
    for number in split:
        if number <= before or number >= len(ways) or ways[number].two_steps == []:
            return False
        before = number
    return True


def splittable(ways):
    """The numbers of the rows that can be written in two steps."""
    return [number for number, way in enumerate(ways) if way.two_steps != []]


def made_first(tables, now, ways, split):
    """What comes of it when these rows are written in two steps, the others directly."""
    queues = [way.two_steps if number in split else way.direct for number, way in enumerate(ways)]
    rows = copied_rows(now)
    made = []
    done = [0 for queue in queues]
    number = 0
    while number < len(queues):
        queue = queues[number]
        if done[number] < len(queue) and make(tables, rows, queue[done[number]]):
            made.append(queue[done[number]])
            done[number] += 1
            # What was made may be what an earlier row has waited for.
            number = 0
        else:
            number += 1
    return Outcome(split, made, [number for number, queue in enumerate(queues) if done[number] < len(queue)])


def best_outcome(tables, now, ways):
    """The plan; or, if there's none, what comes of it when all rows that can be are written in two steps."""
    numbers = splittable(ways)
    splits = [[]]
    # All splits are tried, for more rows in two steps may also do worse: one can fill a table too early.
    while splits != []:
        for split in splits:
            outcome = made_first(tables, now, ways, split)
            if outcome.left == []:
                return outcome
        splits = longer_splits(splits, numbers)
    return made_first(tables, now, ways, numbers)


def longer_splits(splits, numbers):
    """The splits of one row more, in order, if these are in order."""
    longer = []
    for split in splits:
        longer.extend([split + [number] for number in numbers if split == [] or number > split[-1]])
    return longer
