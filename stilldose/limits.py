"""Rules, and the room that they leave."""

from stilldose.bounds import check_between

MOST_RULES = 4
LONGEST_WINDOW = 1000
MOST_DROPS = 1000000


def checked_rules(rules):
    """The rules as a new list; BadSetting if they are none."""
    check_between("how many rules", len(rules), 1, MOST_RULES)
    for rule in rules:
        check_between("a rule's window", rule[0], 1, LONGEST_WINDOW)
        check_between("a rule's drops", rule[1], 0, MOST_DROPS)
    return list(rules)


def longest_window(rules):
    """How many ticks the longest window of the rules has."""
    return max([rule[0] for rule in rules])


def sum_of_last(numbers, many):
    """The sum of the last so many numbers, or of all if there are fewer."""
    first = max(0, len(numbers) - many)
    return sum(numbers[first:])


def room_left(rules, sent):
    """The room at the next tick, where sent tells of each tick that was, the last one last."""
    # The next tick is itself one of each window's ticks, so one fewer has gone by.
    left = [rule[1] - sum_of_last(sent, rule[0] - 1) for rule in rules]
    return max(0, min(left))
