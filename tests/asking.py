"""Writes calls as the interface asks for them, and takes what is told apart."""

from itertools import combinations_with_replacement

from namedinturn.game import answers

BEGINS = [0]
GAPS = [2]


def names(number):
    return [1, number]


def makes(number):
    return [3, number]


def all_named(numbers):
    return [names(number) for number in numbers]


def taken_apart(told):
    apart = []
    place = 0
    while place < len(told):
        end = place + 1 + told[place]
        if told[place] < 1 or end > len(told):
            raise AssertionError(f"counts don't fit: {told}")
        apart.append(told[place + 1:end])
        place = end
    return apart


def ask(calls):
    return taken_apart(answers([number for call in calls for number in call]))


def ask_last(calls):
    return ask(calls)[-1]


def made_by(named, limit):
    """The numbers up to the limit that are made, by spreading from 0 on."""
    made = {0}
    fresh = [0]
    while fresh:
        number = fresh.pop()
        for part in named:
            further = number + part
            if further <= limit and further not in made:
                made.add(further)
                fresh.append(further)
    return made


def left_by(named, limit):
    made = made_by(named, limit)
    return [number for number in range(2, limit + 1) if number not in made]


def first_rows(named, few_at_most):
    """For each sum of so few numbers at most its first row, by trying all."""
    rows = {}
    for few in range(few_at_most + 1):
        found = {}
        for places in combinations_with_replacement(range(len(named)), few):
            row = [places.count(place) for place in range(len(named))]
            found.setdefault(sum(named[place] for place in places), []).append(row)
        for number, candidates in found.items():
            if number not in rows:
                rows[number] = min(candidates)
    return rows
