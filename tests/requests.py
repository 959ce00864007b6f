"""Writes calls by name as the one list that answers takes, and reads its answers back."""

from gameforms.agents import answers

NUMBERS = {
    "create": 0,
    "add_preference": 1,
    "set_full_domain": 2,
    "set_target_outcome": 3,
    "use_dictatorship": 4,
    "use_borda": 5,
    "target_outcome": 6,
    "monotonicity_violation": 7,
    "find_manipulation": 8,
    "set_message_counts": 9,
    "set_mechanism_outcome": 10,
    "use_direct_mechanism": 11,
    "mechanism_outcome": 12,
    "message_counts": 13,
    "count_equilibria": 14,
    "equilibrium": 15,
    "equilibrium_outcomes": 16,
    "implements_in_nash": 17,
    "best_response_dynamics": 18,
    "dominant_messages": 19,
    "dominated_messages": 20,
    "implements_in_dominant_strategies": 21,
    "can_force": 22,
    "can_respond": 23,
    "describe": 24,
}

LARGEST = 4294967295


def written(calls):
    """Each call is a tuple: its name, then its arguments, whole numbers or lists."""
    assert 1 <= len(calls) <= 400, "a request has 1 to 400 calls"
    row = []
    for name, *arguments in calls:
        row.append(NUMBERS[name])
        for argument in arguments:
            if isinstance(argument, int):
                row.append(argument)
            else:
                assert len(argument) <= 8, "a list parameter has at most 8 numbers"
                row.append(len(argument))
                row.extend(argument)
    assert len(row) <= 4400, "a request has at most 4400 numbers"
    return row


def split(answered):
    """One list for each call, without the counts ahead of them."""
    found = []
    start = 0
    while start < len(answered):
        end = start + 1 + answered[start]
        assert end <= len(answered), "an answer is cut off"
        found.append(answered[start + 1:end])
        start = end
    return found


def ask(calls):
    answered = split(answers(written(calls)))
    assert len(answered) == len(calls), "one answer for each call"
    return answered


def last(calls):
    return ask(calls)[-1]


def ask_after(setup, calls):
    """The answers of the calls behind a setup in which no call may be refused."""
    answered = ask(list(setup) + list(calls))
    for call, answer in zip(setup, answered):
        assert answer[0] >= 0, f"the setup's {call} answered {answer}"
    return answered[len(setup):]
