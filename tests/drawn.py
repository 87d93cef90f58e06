"""Lists of calls that are drawn, the same ones each time."""

from tests.lines import (answer, back, begin, both, counts, either, finish, follows, if_then, lay, learn, letter, log,
                         matters, not_of, nth, propose, row, stands, state, truth)

HIGHEST = 4294967295


def some_number(dice, m):
    """Most often a proposition, sometimes the first number that is none, or the highest one."""
    top = 2 ** 2 ** m
    return dice.choice([dice.randrange(top)] * 12 + [0, top - 1, top, HIGHEST])


def some_row(dice, m):
    many = dice.choice([0, 1, 2, 5, 16, 17])
    fitting = [dice.randrange(2 ** 2 ** m) for _ in range(many)]
    return dice.choice([row(*fitting), row(some_number(dice, m), *fitting[:3])])


def some_asking(dice, m):
    """One of the ten calls that change nothing, from counts to state."""
    p, q = some_number(dice, m), some_number(dice, m)
    which = dice.choice([0, 1, 2, 3, dice.randrange(2 ** 2 ** m), HIGHEST])
    return dice.choice([counts(), nth(dice.choice([0, 1, 2, 0, 1, 2, 3, HIGHEST]), which), truth(p),
                        letter(dice.choice([0, 1, 2, 3, HIGHEST])), not_of(p), both(p, q), either(p, q), if_then(p, q),
                        follows(p, q), state()])


def some_call(dice, m):
    n = some_number(dice, m)
    seldom = dice.randrange(40)
    if seldom == 0:
        return begin(dice.choice([m, m, 1, 2, 3, 0, 4, HIGHEST]), n)
    if seldom == 1:
        return finish()
    if seldom < 15:
        return some_asking(dice, m)
    calls = [propose(n)] * 8 + [learn(n | dice.randrange(2 ** 2 ** m))] + [lay(n)] * 2
    return dice.choice(calls + [back(), answer(n), matters(n), stands(), log(), some_row(dice, m)])


def some_begin(dice, m):
    """A begin and a lay that both are taken."""
    return [begin(m, dice.randrange(1, 2 ** 2 ** m)), lay(dice.randrange(1, 2 ** 2 ** m))]


def some_calls(dice, m, most):
    return some_begin(dice, m) + [some_call(dice, m) for _ in range(dice.randrange(most - 1))]
