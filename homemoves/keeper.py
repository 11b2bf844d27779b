"""The way in: answers a list of calls."""

from homemoves.operations import carry_out
from homemoves.reader import read_calls
from homemoves.refusals import Refusal
from homemoves.state import State


def answer(state, place, numbers, lists):
    try:
        return [0] + carry_out(state, place, numbers, lists)
    except Refusal as refusal:
        return [refusal.code]


def answers(calls):
    state = State()
    told = []
    for place, numbers, lists in read_calls(calls):
        fields = answer(state, place, numbers, lists)
        told.append(len(fields))
        told.extend(fields)
    return told
