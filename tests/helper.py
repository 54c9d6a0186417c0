"""What the tests share: calls by their names, and answers cut apart again."""

from itertools import permutations

from pageslates.slates import answers

NAMES = (
    "create", "add_candidate", "set_score", "set_quota", "set_creators", "set_freshness", "set_diversity",
    "forbid", "allow", "pin", "unpin", "value", "violation", "gain", "greedy", "improve", "best",
    "count_feasible", "bound", "tune", "gap", "exposure", "cover", "cost_of", "worth", "candidate_info", "status",
)

GREATEST = 4294967295


def encode(calls):
    """Write calls such as ("gain", 2, [1]) one behind another, as the interface asks."""
    flat = []
    for name, *arguments in calls:
        flat.append(NAMES.index(name))
        for argument in arguments:
            if isinstance(argument, list):
                flat.append(len(argument))
                flat.extend(argument)
            else:
                flat.append(argument)
    return flat


def cut(answered):
    """Cut the answers of a list of calls into one list for each call."""
    results = []
    place = 0
    while place < len(answered):
        end = place + 1 + answered[place]
        assert answered[place] > 0 and end <= len(answered), answered
        results.append(answered[place + 1:end])
        place = end
    return results


def run(calls):
    """Answer calls, each with a list of its own."""
    results = cut(answers(encode(calls)))
    assert len(results) == len(calls), results
    return results


def last(calls):
    """Answer calls and tell the last answer."""
    return run(calls)[-1]


def add(score=0, group=0, creator=0, age=0, topics=None):
    """Tell a call of add_candidate by what matters of it."""
    return ("add_candidate", score, group, creator, age, topics or [])


def page(weights, *candidates):
    """Tell the calls for a page with these candidates."""
    return [("create", weights), *candidates]


def slates_of(candidates, positions):
    """List every slate, in lexicographic order."""
    return [list(slate) for slate in permutations(range(candidates), positions)]
