"""Writes calls as DOC.md tells them, and takes their answers apart."""

from shipstores.voyages import answers

BIG = 4294967295
UNITS = 1000000000


def start(last=10, room=UNITS, persons=1):
    return [0, last, room, persons]


def good(per=1, life=100):
    return [1, per, life]


def persons(day, n):
    return [2, day, n]


def port(day, yes=1):
    return [3, day, yes]


def load(g, n):
    return [4, g, n]


def give(g, n):
    return [5, g, n]


def ration(g, per):
    return [6, g, per]


def days(n):
    return [7, n]


def lasts(g):
    return [8, g]


def least(g):
    return [9, g]


def enough(g, n):
    return [10, g, n]


def need(g, a, b):
    return [11, g, a, b]


def spoils(g):
    return [12, g]


def stock(g):
    return [13, g]


def lot(g, i):
    return [14, g, i]


def look(g):
    return [15, g]


def who(day):
    return [16, day]


def coming():
    return [17]


def short():
    return [18]


def room():
    return [19]


def sums(g):
    return [20, g]


def back():
    return [21]


def again():
    return [22]


def state():
    return [23]


def split(numbers):
    told = []
    at = 0
    while at < len(numbers):
        behind = at + 1 + numbers[at]
        told.append(numbers[at + 1:behind])
        at = behind
    return told


def ask(*calls):
    """All answers to these calls on a new object, a list each."""
    numbers = []
    for call in calls:
        numbers.extend(call)
    told = split(answers(numbers))
    if len(told) != len(calls):
        raise AssertionError(f"{len(calls)} calls, {len(told)} answers")
    return told


def ask_last(*calls):
    return ask(*calls)[-1]


def whole_look(goods=2, last=10):
    """Every call that asks of the voyage, at every place: all that can be asked but sd_state."""
    looks = [coming(), short(), room()]
    for day in range(last + 2):
        looks.append(who(day))
    for g in range(goods + 1):
        looks.extend([lasts(g), least(g), enough(g, 7), spoils(g), stock(g), look(g), sums(g)])
        looks.extend([lot(g, i) for i in range(7)])
        looks.append(need(g, 0, last + 1))
    return looks


def changes_left(calls):
    """How many changes can be taken back and done again behind these calls, as sd_state tells it."""
    return ask_last(*calls, state())[-2:]
