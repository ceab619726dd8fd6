"""What the calls on a collection of versions answer, as one list of whole numbers."""

from keptrows.collection import Collection

MAKE = 1


def answer_begin(collection, handed):
    return [collection.begin()]


def answer_make(collection, handed):
    return [collection.make(handed[1:])]


def answer_insert(collection, handed):
    return [collection.insert_number(handed[0], handed[1], handed[2])]


def answer_set(collection, handed):
    return [collection.set_number(handed[0], handed[1], handed[2])]


def answer_remove(collection, handed):
    return [collection.remove_stretch(handed[0], handed[1], handed[2])]


def answer_part(collection, handed):
    return [collection.part_stretch(handed[0], handed[1], handed[2])]


def answer_turn(collection, handed):
    return [collection.turn_stretch(handed[0], handed[1], handed[2])]


def answer_join(collection, handed):
    return [collection.join_versions(handed[0], handed[1])]


def answer_put(collection, handed):
    return [collection.put_version(handed[0], handed[1], handed[2])]


def answer_length(collection, handed):
    return [collection.length_of(handed[0])]


def answer_out(collection, handed):
    return collection.out_stretch(handed[0], handed[1], handed[2])


def answer_count(collection, handed):
    return [collection.count_number(handed[0], handed[1], handed[2], handed[3])]


def answer_differ(collection, handed):
    return [collection.differ_place(handed[0], handed[1])]


def answer_origin(collection, handed):
    return [collection.origin_version(handed[0], handed[1])]


# By a call's number: how many numbers stand behind it (ahead of a row's own), and what answers it.
CALLS = {
    0: (0, answer_begin),
    1: (1, answer_make),
    2: (3, answer_insert),
    3: (3, answer_set),
    4: (3, answer_remove),
    5: (3, answer_part),
    6: (3, answer_turn),
    7: (2, answer_join),
    8: (3, answer_put),
    9: (1, answer_length),
    10: (3, answer_out),
    11: (4, answer_count),
    12: (2, answer_differ),
    13: (2, answer_origin),
}


def answers(calls):
    return answers_of(Collection(), calls)


def answers_of(collection, calls):
    given = []
    at = 0
    while at < len(calls):
        end = end_of_call(calls, at)
        answerer = CALLS[calls[at]][1]
        answer = answerer(collection, calls[at + 1:end])
        given.append(len(answer))
        given.extend(answer)
        at = end
    return given


def end_of_call(calls, at):
    end = at + 1 + CALLS[calls[at]][0]
    if calls[at] == MAKE:
        end = end + calls[at + 1]
    return end
