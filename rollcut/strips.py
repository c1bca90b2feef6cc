"""The calls on one object, handed in as one list of numbers, and their answers."""

from rollcut.bench import Bench

READ = 1
TEXT = 2
PAPER = 3
JUDGE = 4
SOUNDS = 5
TONES = 6
CHAIN = 7
CUT = 8

# By a call's number: how many whole numbers stand behind it, ahead of its list.
WHOLE_NUMBERS = {1: 0, 2: 1, 3: 4, 4: 1, 5: 2, 6: 1, 7: 1, 8: 2}


def answers(calls):
    """For each call, in order, how many numbers are answered, and these."""
    bench = Bench()
    given = []
    place = 0
    while place < len(calls):
        behind = call_end(calls, place)
        row = answer_to(bench, calls[place:behind])
        given.append(len(row))
        given.extend(row)
        place = behind
    return given


def call_end(calls, place):
    """The place behind the call that begins at a place."""
    number = calls[place]
    behind = place + 1 + WHOLE_NUMBERS[number]
    if number == READ or number == CUT:
        behind += 1 + calls[behind]
    return behind


def answer_to(bench, call):
    if call[0] == READ:
        return bench.read(call[2:])
    if call[0] == TEXT:
        return bench.tell_text(call[1])
    if call[0] == PAPER:
        return bench.lay_paper(call[1:])
    if call[0] == JUDGE:
        return bench.judge(call[1])
    if call[0] == SOUNDS:
        return bench.tell_sounds(call[1], call[2])
    if call[0] == TONES:
        return bench.tell_tones(call[1])
    if call[0] == CHAIN:
        return bench.tell_chain(call[1])
    return bench.cut(call[1], call[2], call[4:])
