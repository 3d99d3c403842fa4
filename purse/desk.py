"""The desk: a chest that is told rows and answers by texts."""

from purse.chests import Chest
from purse.errors import NoRow
from purse.texts import read_number, read_words


def paid_text(rows):
    return ", ".join([f"{voter} {paid}" for voter, paid in rows])


def done_text(work, cost, rows):
    payers = paid_text(rows)
    return f"{work} {cost}: {payers}"


def closing_text(done, grains):
    if not done:
        return "none"
    told = "; ".join([done_text(work, cost, rows) for work, cost, rows in done])
    return f"{told} of {grains}"


def work_text(work, cost, wanters):
    names = "+".join(wanters) if wanters else "-"
    return f"{work} {cost} {names}"


def works_text(works):
    if not works:
        return "none"
    return ", ".join([work_text(work, cost, wanters) for work, cost, wanters in works])


def close_chest(chest):
    closing = chest.close()
    return closing_text(closing[0], closing[1])


def say_one(chest, deed):
    if deed == "close":
        return close_chest(chest)
    if deed == "works":
        return works_text(chest.works())
    if deed == "pot":
        return str(chest.pot())
    if deed == "given":
        return str(chest.given())
    if deed == "spent":
        return str(chest.spent())
    raise NoRow(f"no row of one word: {deed!r}")


def say_two(chest, deed, word):
    if deed == "purse":
        return str(chest.purse_of(word))
    if deed == "enrol":
        chest.enrol(word)
    elif deed == "leave":
        chest.leave(word)
    elif deed == "give":
        chest.give(read_number(word))
    elif deed == "withdraw":
        chest.withdraw(word)
    else:
        raise NoRow(f"no row of two words: {deed!r}")
    return "ok"


def say_three(chest, deed, word, last):
    if deed == "propose":
        chest.propose(word, read_number(last))
    elif deed == "want":
        chest.want(word, last)
    elif deed == "unwant":
        chest.unwant(word, last)
    else:
        raise NoRow(f"no row of three words: {deed!r}")
    return "ok"


class Desk:
    def __init__(self):
        self.chest = Chest()

    def say(self, row):
        words = read_words(row)
        if len(words) == 1:
            return say_one(self.chest, words[0])
        if len(words) == 2:
            return say_two(self.chest, words[0], words[1])
        if len(words) == 3:
            return say_three(self.chest, words[0], words[1], words[2])
        raise NoRow(f"too many words: {row!r}")
