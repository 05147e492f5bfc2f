"""The program's one function: a flat list of calls in, a flat list of answers out."""

from goodsplans.calls import answer_back, answer_begin, answer_exchange, answer_follow, answer_need
from goodsplans.calls import answer_net, answer_plan, answer_reach, answer_recipe, answer_show
from goodsplans.calls import answer_stock, answer_told, answer_use, answer_weigh
from goodsplans.workshop import Workshop

# For each call its name, how many whole numbers it has, and how many rows behind them.
CALLS = {
    0: ("begin", 0, 1),
    1: ("recipe", 0, 1),
    2: ("use", 1, 1),
    3: ("back", 0, 0),
    4: ("stock", 0, 0),
    5: ("plan", 0, 0),
    6: ("show", 1, 0),
    7: ("exchange", 1, 0),
    8: ("told", 0, 0),
    9: ("net", 0, 0),
    10: ("reach", 0, 1),
    11: ("follow", 0, 1),
    12: ("weigh", 0, 2),
    13: ("need", 1, 0),
}


# A call cut out of the list; the slices are copies, so nothing handed in is ever kept.
class Call:
    def __init__(self, calls, at):
        shape = CALLS[calls[at]]
        self.kind = shape[0]
        self.end = at + 1 + shape[1]
        self.numbers = calls[at + 1:self.end]
        self.rows = []
        while len(self.rows) < shape[2]:
            start = self.end + 1
            self.end = start + calls[self.end]
            self.rows.append(calls[start:self.end])


def answer_call(workshop, call):
    if call.kind == "begin":
        return answer_begin(workshop, call.rows[0])
    if call.kind == "recipe":
        return answer_recipe(workshop, call.rows[0])
    if call.kind == "use":
        return answer_use(workshop, call.numbers[0], call.rows[0])
    if call.kind == "back":
        return answer_back(workshop)
    if call.kind == "stock":
        return answer_stock(workshop)
    if call.kind == "plan":
        return answer_plan(workshop)
    if call.kind == "show":
        return answer_show(workshop, call.numbers[0])
    if call.kind == "exchange":
        return answer_exchange(workshop, call.numbers[0])
    if call.kind == "told":
        return answer_told(workshop)
    if call.kind == "net":
        return answer_net(workshop)
    if call.kind == "reach":
        return answer_reach(workshop, call.rows[0])
    if call.kind == "follow":
        return answer_follow(workshop, call.rows[0])
    if call.kind == "weigh":
        return answer_weigh(workshop, call.rows[0], call.rows[1])
    return answer_need(workshop, call.numbers[0])


def answers(calls):
    workshop = Workshop()
    told = []
    at = 0
    while at < len(calls):
        call = Call(calls, at)
        answer = answer_call(workshop, call)
        told.append(len(answer))
        told.extend(answer)
        at = call.end
    return told
