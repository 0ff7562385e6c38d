"""The game from where it stands: who wins, by which numbers, and its worth."""


# left are all numbers that are left, rising, so what is not in it is made, but for 1.
# A number is left still if, the named one taken off, it isn't made even with that one.
def left_after(left, named_now):
    still = []
    for number in left:
        rest = number - named_now
        if rest < 0 or rest == 1 or rest in still:
            still.append(number)
    return still


# What is left tells all that is to come; known keeps the worths by it, as the same numbers
# may be left by naming in many orders.
def worth_with(left, known):
    position = tuple(left)
    if position in known:
        return known[position]
    met = [worth_with(left_after(left, number), known) for number in left]
    worth = 0
    while worth in met:
        worth += 1
    known[position] = worth
    return worth


def worth_of(left):
    return worth_with(left, {})


# Whoever is to name doesn't win just where the worth is 0: none is left, or each number that
# is left leads to another worth, so to a game that the other one wins.
def winning_numbers(left):
    known = {}
    return [number for number in left if worth_with(left_after(left, number), known) == 0]
