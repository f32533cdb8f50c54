"""How letters are laid in lanes, and die there.

Work at a yard is told here by its plan, its turn, and two lists that change: that of the letters that lie in each
lane, and that of all that are ended.
"""

from heardonce.names import is_met


def lying_key(letter):
    """What tells the order in which letters lie: greater ranks first, then lesser `since`, then lesser marks."""
    return -letter[1], letter[4], letter[0]


def indices_met(plan, topic):
    """The list of the indices of all lanes that a topic meets."""
    return [at for at, lane in enumerate(plan) if any([is_met(topic, wish) for wish in lane[1]])]


def index_of_lane(plan, name):
    return [lane[0] for lane in plan].index(name)


def behind_death(plan, turn, ended, at, letter, reason):
    """The index of the lane where a letter that dies is laid anew, and this letter, or None if it is ended."""
    name, dead = plan[at][0], plan[at][4]
    pair = (name, reason)
    deaths = letter[6] + (pair,)
    if dead is None or pair in letter[6]:
        ended.append((name, letter[:6] + (deaths,), "gone"))
        return at, None
    return index_of_lane(plan, dead), letter[:4] + (turn, 0, deaths)


def lay(plan, turn, lots, ended, at, letter):
    """Lay a letter in the lane with an index; the last one there dies if there is no room, and so on."""
    while letter is not None:
        lot = sorted(lots[at] + [letter], key=lying_key)
        most = plan[at][2]
        lots[at], letter = lot[:most], None
        if len(lot) > most:
            at, letter = behind_death(plan, turn, ended, at, lot[most], "full")


def die(plan, turn, lots, ended, at, letter, reason):
    """Let a letter die that was taken out of the lane with an index."""
    at, letter = behind_death(plan, turn, ended, at, letter, reason)
    lay(plan, turn, lots, ended, at, letter)


def is_old(lane, turn, letter):
    return lane[3] is not None and turn - letter[4] >= lane[3]


def let_grow_old(plan, turn, lots, ended):
    """Let all die that are old at a turn, lane by lane."""
    for at, lane in enumerate(plan):
        old = [letter for letter in lots[at] if is_old(lane, turn, letter)]
        if old:
            lots[at] = [letter for letter in lots[at] if not is_old(lane, turn, letter)]
        for letter in old:
            die(plan, turn, lots, ended, at, letter, "old")
