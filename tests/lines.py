"""Writes lines of calls, and takes apart what they answer."""

from snowcrews.watch import answers

LARGEST = 4294967295

CHEAPEST = [4]
FEWEST = [5]
SHALLOW = [6]


def begins(deep, clears, may):
    return [0, deep, clears, may]


def crew(row, rest, hour, call):
    return [1, row, rest, hour, call]


def snow(much):
    return [2, much]


def snows(*falls):
    return [snow(much) for much in falls]


def check(*plan):
    return [3, len(plan), *plan]


def line(*calls):
    """The calls as the one list that is handed in, held to what may be handed in."""
    if not 1 <= len(calls) <= 60:
        raise ValueError("a line has 1 to 60 calls")
    if sum(call in (CHEAPEST, FEWEST, SHALLOW) for call in calls) > 8:
        raise ValueError("a line has at most 8 calls of cheapest, fewest and shallow together")
    numbers = [number for call in calls for number in call]
    if len(numbers) > 900:
        raise ValueError("a line has at most 900 numbers")
    return numbers


def apart(answered):
    """The answers one by one, without their counts."""
    parts = []
    at = 0
    while at < len(answered):
        end = at + 1 + answered[at]
        if end > len(answered):
            raise AssertionError(f"a count goes beyond the end: {answered}")
        parts.append(answered[at + 1:end])
        at = end
    return parts


def ask(*calls):
    """What each of the calls answers, one behind another on one watch."""
    parts = apart(answers(line(*calls)))
    if len(parts) != len(calls):
        raise AssertionError(f"{len(calls)} calls, but {len(parts)} answers: {parts}")
    return parts


def last(*calls):
    """What the last of the calls answers."""
    return ask(*calls)[-1]
