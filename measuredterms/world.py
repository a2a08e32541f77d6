"""The calls of a list, answered one after another."""

from measuredterms.desk import Desk
from measuredterms.texts import text_of


def answer_base(desk, numbers, texts):
    return desk.base(texts[0])


def answer_unit(desk, numbers, texts):
    return desk.unit(texts[0], texts[1])


def answer_world(desk, numbers, texts):
    return desk.world(texts[0], texts[1])


def answer_run(desk, numbers, texts):
    return desk.run(numbers[0], texts[0])


def answer_cost(desk, numbers, texts):
    return desk.cost(numbers[0], texts[0])


def answer_hold(desk, numbers, texts):
    return desk.hold(numbers[0], texts[0], texts[1])


def answer_held(desk, numbers, texts):
    return desk.held(texts[0])


def answer_clear(desk, numbers, texts):
    return desk.clear()


# Of each call: what answers it, and how many whole numbers and how many texts it has.
CALLS = {
    0: (answer_base, 0, 1),
    1: (answer_unit, 0, 2),
    2: (answer_world, 0, 2),
    3: (answer_run, 1, 1),
    4: (answer_cost, 1, 1),
    5: (answer_hold, 1, 2),
    6: (answer_held, 0, 1),
    7: (answer_clear, 0, 0),
}


def answers(calls):
    """For each of the calls, made on one new object: how many numbers are answered, and these."""
    desk = Desk()
    given = []
    place = 0
    while place < len(calls):
        answer_call, number_count, text_count = CALLS[calls[place]]
        numbers = calls[place + 1:place + 1 + number_count]
        texts, place = texts_at(calls, place + 1 + number_count, text_count)
        answer = answer_call(desk, numbers, texts)
        given.append(len(answer))
        given.extend(answer)
    return given


def texts_at(calls, start, text_count):
    """So many texts, each with its length before it, that begin there, and where the last ends."""
    texts = []
    place = start
    for k in range(text_count):
        end = place + 1 + calls[place]
        texts.append(text_of(calls[place + 1:end]))
        place = end
    return (texts, place)
