"""The calls on one new graph, as one list of numbers, and their answers, as another."""

from rectypes.bounds import answer_join, answer_meet
from rectypes.compare import answer_sub, answer_why
from rectypes.define import define_function, define_plain, define_rows, make_node
from rectypes.graph import Graph
from rectypes.look import answer_kind, answer_label, answer_part, answer_value

NEW = 1
PLAIN = 2
FN = 3
ROWS = 4
SUB = 5
WHY = 6
JOIN = 7
MEET = 8
KIND = 9
VALUE = 10
PART = 11

# By the call's number. For rows the third argument is the row's count, and the row comes on top of these.
ARGUMENT_COUNTS = {1: 0, 2: 3, 3: 3, 4: 3, 5: 2, 6: 2, 7: 2, 8: 2, 9: 1, 10: 1, 11: 2, 12: 2}


def answers(calls):
    graph = Graph()
    answered = []
    start = 0
    while start < len(calls):
        end = end_of_call(calls, start)
        answer = answer_of(graph, calls[start], calls[start + 1:end])
        answered.append(len(answer))
        answered.extend(answer)
        start = end
    return answered


def end_of_call(calls, start):
    end = start + 1 + ARGUMENT_COUNTS[calls[start]]
    if calls[start] == ROWS:
        return end + calls[end - 1]
    return end


def answer_of(graph, call, given):
    if call == NEW:
        return make_node(graph)
    if call == PLAIN:
        return define_plain(graph, given[0], given[1], given[2])
    if call == FN:
        return define_function(graph, given[0], given[1], given[2])
    if call == ROWS:
        return define_rows(graph, given[0], given[1], given[3:])
    if call == KIND:
        return answer_kind(graph, given[0])
    if call == VALUE:
        return answer_value(graph, given[0])
    return answer_about_two(graph, call, given[0], given[1])


def answer_about_two(graph, call, first, second):
    if call == SUB:
        return answer_sub(graph, first, second)
    if call == WHY:
        return answer_why(graph, first, second)
    if call == JOIN:
        return answer_join(graph, first, second)
    if call == MEET:
        return answer_meet(graph, first, second)
    if call == PART:
        return answer_part(graph, first, second)
    return answer_label(graph, first, second)
