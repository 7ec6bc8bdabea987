"""The desk: a list of calls comes in, the list of their answers goes out."""

from foldsheets.bench import Bench
from foldsheets.reading import read_calls


def answers(calls):
    bench = Bench()
    given = []
    for call in read_calls(calls):
        answer = bench.answer(call)
        given.append(len(answer))
        given.extend(answer)
    return given
