"""What the named numbers make, each taken as often as one likes, and what they leave."""

# More than any sum here takes: 300, the greatest that is asked for, is 150 times 2 at most.
NEVER = 1000


def divisor_of_two(one, other):
    while other > 0:
        rest = one % other
        one = other
        other = rest
    return one


def common_divisor(named):
    divisor = 0
    for number in named:
        divisor = divisor_of_two(divisor, number)
    return divisor


# made tells of each number from 0 on whether it is made; asked is the one behind its end.
def is_next_made(made, named):
    number = len(made)
    return any([part <= number and made[number - part] for part in named])


def is_made(number, named):
    made = [True]
    while len(made) <= number:
        made.append(is_next_made(made, named))
    return made[number]


# Once as many in a row are made as the least named one says, it makes all beyond them, too.
# Without that row this never ends: the greatest common divisor has to be 1.
def numbers_left(named):
    least = min(named)
    made = [True]
    left = []
    in_a_row = 1
    while in_a_row < least:
        number = len(made)
        made.append(is_next_made(made, named))
        if made[number]:
            in_a_row += 1
        else:
            in_a_row = 0
            if number > 1:
                left.append(number)
    return left


# fewest tells of each number from 0 on of how few it is a sum; part may now be taken, too.
def fewest_with(fewest, part):
    better = list(fewest)
    for number in range(part, len(better)):
        better[number] = min(better[number], better[number - part] + 1)
    return better


# One table for each place in named, and one behind its end: what is made from that place on.
def fewest_from_each(number, named):
    tables = [[0] + [NEVER] * number]
    for part in reversed(named):
        tables.append(fewest_with(tables[-1], part))
    return list(reversed(tables))


# Of the rows with the fewest numbers the first one takes as little as it can of each in turn,
# so one more is taken only where those behind it can't make the rest with as few.
# None if the number is not made.
def fewest_row(number, named):
    tables = fewest_from_each(number, named)
    few = tables[0][number]
    if few == NEVER:
        return None
    rest = number
    row = []
    for place, part in enumerate(named):
        times = 0
        while tables[place + 1][rest] != few:
            times += 1
            rest -= part
            few -= 1
        row.append(times)
    return row
