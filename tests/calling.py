"""Calls written short for the tests, and the answers taken apart again."""

from hedgemerge.desk import answers

MOST_NUMBERS = 16000


def as_bytes(text):
    return list(text.encode("latin-1")) if isinstance(text, str) else list(text)


def row(text):
    numbers = as_bytes(text)
    return [len(numbers)] + numbers


def base(text):
    return [0] + row(text)


def version(number, text):
    return [1, number] + row(text)


def form(number):
    return [2, number]


def merge(number):
    return [3, number]


def conflicts():
    return [4]


def did(number):
    return [5, number]


def fate(number, path):
    return [6, number, len(path)] + list(path)


def distances():
    return [7]


def take(taker, number):
    return [8, taker, number]


def settle(number):
    return [9, number]


def three(old, first, second):
    """The calls that make the base and the versions these."""
    return [base(old), version(1, first), version(2, second)]


def line(calls):
    return [number for call in calls for number in call]


def ask(calls):
    """The answer to each call, as a list."""
    numbers = line(calls)
    assert 1 <= len(calls) <= 400 and len(numbers) <= MOST_NUMBERS
    answered = answers(numbers)
    parts = []
    place = 0
    while place < len(answered):
        end = place + 1 + answered[place]
        parts.append(answered[place + 1:end])
        place = end
    assert place == len(answered) and len(parts) == len(calls)
    return parts


def ask_last(calls):
    return ask(calls)[-1]


def told_text(answer):
    """The text of an answer that begins with how many bytes it has."""
    assert answer[0] == len(answer) - 1
    return bytes(answer[1:]).decode("latin-1")


def told_form(calls, number):
    return told_text(ask_last(calls + [form(number)]))


def told_merge(calls, number):
    """How many conflicts there are, and the outcome's form."""
    answer = ask_last(calls + [merge(number)])
    return (answer[0], told_text(answer[1:]))


def told_conflicts(calls):
    """The conflicts as tuples of the kind and the path."""
    answer = ask_last(calls + [conflicts()])
    found = []
    place = 1
    while place < len(answer):
        end = place + 2 + answer[place + 1]
        found.append((answer[place], answer[place + 2:end]))
        place = end
    assert place == len(answer) and answer[0] == len(found)
    return found
