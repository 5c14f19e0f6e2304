"""What several tests need: when a rack is sound, a plain model of the hall, and long days.

The model counts on its own and calls nothing of the program, so that a fault
in the program doesn't stand in what it is held against too.
"""


def round_from(start, size):
    """All pegs of a rack, from start on round the hall."""
    return list(range(start, size)) + list(range(start))


def remainder(number, size):
    """What is left of a number, counted from its figures alone."""
    left = 0
    for figure in str(abs(number)):
        left = (left * 10 + int(figure)) % size
    return (size - left) % size if number < 0 else left


def is_sound(rack):
    coats = [coat for coat in rack if coat is not None]
    if len(rack) < 3 or None not in rack or len(set(coats)) != len(coats):
        return False
    for coat in coats:
        pegs = round_from(remainder(coat, len(rack)), len(rack))
        before = pegs[:pegs.index(rack.index(coat))]
        if any(rack[peg] is None for peg in before):
            return False
    return True


def model_hang(rack, number):
    """Hangs a coat on the rack itself and tells the peg."""
    pegs = round_from(remainder(number, len(rack)), len(rack))
    peg = [peg for peg in pegs if rack[peg] is None][0]
    rack[peg] = number
    return peg


def model_take(rack, number):
    """Takes a coat from the rack itself and tells the peg."""
    taken_from = rack.index(number)
    rack[taken_from] = None
    for peg in round_from(taken_from, len(rack))[1:]:
        coat = rack[peg]
        if coat is None:
            break
        rack[peg] = None
        model_hang(rack, coat)
    return taken_from


def model_change(rack, size):
    new = [None] * size
    for coat in rack:
        if coat is not None:
            model_hang(new, coat)
    return new


def model_day(deeds):
    """For each deed its answer and the rack behind it."""
    rack = [None] * 5
    steps = []
    for word, number in deeds:
        there = number in rack
        answer = rack.index(number) if there else None
        if word == "hang":
            answer = None
            if not there:
                model_hang(rack, number)
                if 3 * len([coat for coat in rack if coat is not None]) > 2 * len(rack):
                    rack = model_change(rack, 2 * len(rack) + 1)
                answer = rack.index(number)
        elif word == "take" and there:
            model_take(rack, number)
        steps.append((answer, list(rack)))
    return steps


def draws(seed):
    """Numbers that look drawn by chance, the same ones at every run."""
    state = seed
    while True:
        state = (state * 6364136223846793005 + 1442695040888963407) % 2 ** 64
        yield state >> 33


def mixed_day(seed, length, spread, factor):
    """Deeds on coats around nought, all of them multiples of factor; hangings are the most."""
    words = ("hang", "take", "hang", "look", "hang", "take")
    drawn = draws(seed)
    deeds = []
    for turn in range(length):
        word = words[next(drawn) % len(words)]
        deeds.append((word, (next(drawn) % (2 * spread + 1) - spread) * factor))
    return deeds


def crowded_racks(size, coat_counts, seed):
    """Sound racks whose coats come mostly to a few own pegs, so that their runs are long."""
    drawn = draws(seed)
    racks = []
    for coats in coat_counts:
        rack = [None] * size
        while size - rack.count(None) < coats:
            number = (next(drawn) % 41 - 20) * size + size - 1 - next(drawn) % 3
            if number not in rack:
                model_hang(rack, number)
        racks.append(rack)
    return racks
