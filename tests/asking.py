"""Writes calls as the interface asks for them, and takes what is told apart."""

from itertools import combinations, combinations_with_replacement
from math import gcd

from namedinturn.game import answers

BEGINS = [0]
GAPS = [2]
WINS = [4]
WORTH = [5]
ENDER = [6]
UNDO = [7]

# Some games with as many left as wins, worth and ender still answer of, and one more.
SIXTEEN_LEFT = (
    (2, 35),
    (6, 11, 20),
    (8, 10, 19, 23),
    (11, 12, 14, 18, 20),
    (8, 20, 21, 22, 23, 25, 26, 27),
    (10, 18, 21, 22, 23, 24, 25, 26, 27, 29),
    (12, 16, 18, 21, 22, 23, 25, 26, 27, 29, 31),
    (12, 18, 20, 21, 22, 23, 25, 26, 27, 28, 29, 31),
)
SEVENTEEN_LEFT = (
    (2, 37),
    (3, 19),
    (4, 13),
    (9, 10, 12),
    (15, 17, 18, 21, 22, 23, 25, 26, 27, 28, 29, 31),
)
# Where so few are left the greatest one is below this.
BEYOND_SIXTEEN = 40


def names(number):
    return [1, number]


def makes(number):
    return [3, number]


def all_named(numbers):
    return [names(number) for number in numbers]


def taken_apart(told):
    apart = []
    place = 0
    while place < len(told):
        end = place + 1 + told[place]
        if told[place] < 1 or end > len(told):
            raise AssertionError(f"counts don't fit: {told}")
        apart.append(told[place + 1:end])
        place = end
    return apart


def ask(calls):
    return taken_apart(answers([number for call in calls for number in call]))


def ask_last(calls):
    return ask(calls)[-1]


def made_by(named, limit):
    """The numbers up to the limit that are made, by spreading from 0 on."""
    made = {0}
    fresh = [0]
    while fresh:
        number = fresh.pop()
        for part in named:
            further = number + part
            if further <= limit and further not in made:
                made.add(further)
                fresh.append(further)
    return made


def left_by(named, limit):
    made = made_by(named, limit)
    return [number for number in range(2, limit + 1) if number not in made]


def first_rows(named, few_at_most):
    """For each sum of so few numbers at most its first row, by trying all."""
    rows = {}
    for few in range(few_at_most + 1):
        found = {}
        for places in combinations_with_replacement(range(len(named)), few):
            row = [places.count(place) for place in range(len(named))]
            found.setdefault(sum(named[place] for place in places), []).append(row)
        for number, candidates in found.items():
            if number not in rows:
                rows[number] = min(candidates)
    return rows


def small_games():
    """Each way to name two to four numbers below 14 so that 16 at most are left."""
    games = []
    for few in (2, 3, 4):
        for named in combinations(range(13, 1, -1), few):
            if gcd(*named) == 1 and len(left_by(named, 200)) <= 16:
                games.append(list(named))
    return games


def plain_winning(named, known):
    """The numbers by which whoever is to name wins, by the words; known keeps what was found."""
    left = tuple(left_by(named, BEYOND_SIXTEEN))
    if left not in known:
        known[left] = [number for number in left if not plain_winning(named + [number], known)]
    return known[left]


def plain_worth(named, known):
    """The game's worth, by the words; known keeps what was found."""
    left = tuple(left_by(named, BEYOND_SIXTEEN))
    if left not in known:
        worths = {plain_worth(named + [number], known) for number in left}
        known[left] = min(set(range(len(left) + 1)) - worths)
    return known[left]
