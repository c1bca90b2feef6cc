"""The calls on one object, handed in as one list of numbers, and their answers."""

from rollcut.bench import Bench

READ = 1
TEXT = 2
PAPER = 3

# By a call's number: how many whole numbers stand behind it, ahead of its rows.
WHOLE_NUMBERS = {1: 0, 2: 1, 3: 4, 4: 1}


def answers(calls):
    """For each call, in order, how many numbers are answered, and these."""
    bench = Bench()
    given = []
    place = 0
    while place < len(calls):
        behind = call_end(calls, place)
        row = answer_to(bench, calls[place:behind])
        given.append(len(row))
        given.extend(row)
        place = behind
    return given


def call_end(calls, place):
    """The place behind the call that begins at a place."""
    number = calls[place]
    behind = place + 1 + WHOLE_NUMBERS[number]
    if number == READ:
        behind += 1 + calls[behind]
    return behind


def answer_to(bench, call):
    if call[0] == READ:
        return bench.read(call[2:])
    if call[0] == TEXT:
        return bench.tell_text(call[1])
    if call[0] == PAPER:
        return bench.lay_paper(call[1:])
    return bench.judge(call[1])
