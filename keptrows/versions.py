"""What the calls on a collection of versions answer, as one list of whole numbers."""

from keptrows.collection import Collection

MAKE = 1


def answer_begin(collection, handed):
    return [collection.begin()]


def answer_make(collection, handed):
    return [collection.make(handed[1:])]


def answer_insert(collection, handed):
    return [collection.insert_number(handed[0], handed[1], handed[2])]


def answer_set(collection, handed):
    return [collection.set_number(handed[0], handed[1], handed[2])]


def answer_remove(collection, handed):
    return [collection.remove_stretch(handed[0], handed[1], handed[2])]


def answer_part(collection, handed):
    return [collection.part_stretch(handed[0], handed[1], handed[2])]


def answer_turn(collection, handed):
    return [collection.turn_stretch(handed[0], handed[1], handed[2])]


# By a call's number: how many numbers stand behind it (ahead of a row's own), and what answers it.
CALLS = {
    0: (0, answer_begin),
    1: (1, answer_make),
    2: (3, answer_insert),
    3: (3, answer_set),
    4: (3, answer_remove),
    5: (3, answer_part),
    6: (3, answer_turn),
}


def answers(calls):
    return answers_of(Collection(), calls)


def answers_of(collection, calls):
    given = []
    at = 0
    while at < len(calls):
        end = end_of_call(calls, at)
        answerer = CALLS[calls[at]][1]
        answer = answerer(collection, calls[at + 1:end])
        given.append(len(answer))
        given.extend(answer)
        at = end
    return given


def end_of_call(calls, at):
    end = at + 1 + CALLS[calls[at]][0]
    if calls[at] == MAKE:
        end = end + calls[at + 1]
    return end
