"""What goes from keeper to keeper: since gives acts as messages, take has them come, hand does both."""

from keptbymany.messages import acts_in, message_of, with_length
from keptbymany.refusals import NO_MESSAGES, WRONG

MOST_TAKEN_BYTES = 65536


def do_since(keeper, most, had):
    if most < 0:
        return [WRONG]
    given = []
    for act in keeper.acts:
        if act.n > had[act.keeper]:
            message = with_length(message_of(act))
            if len(given) + len(message) > most:
                break
            given.extend(message)
    return [len(given)] + given


def do_take(keeper, row):
    if len(row) > MOST_TAKEN_BYTES:
        return [WRONG]
    acts = acts_in(row)
    if acts is None:
        return [NO_MESSAGES]
    count = 0
    for act in acts:
        count += keeper.come(act)
    return [count]


# Of a refusal no bytes stand behind the number, so that none are taken then.
def do_hand(giver, taker, most):
    given = do_since(giver, most, taker.counts)
    taken = do_take(taker, given[1:])
    return [given[0], taken[0]]
