"""The ways of two readers who go side by side, from a fork on."""

from jointkeys.signs import least_of

# The steps by which the one reader, or the other one, comes to the end of a field; other steps
# are masks of characters that both read.
JUMP = -1
OTHER_JUMP = -2


def way_to(net, origins, pair):
    """The fork from which both readers come to two states, and their traces from its field on.

    For each two states, `origins` has those before them and the step between, or None and the fork.
    """
    traces = []
    other_traces = []
    before, step = origins[pair]
    while before is not None:
        if step == JUMP:
            traces.append(" ")
        elif step == OTHER_JUMP:
            other_traces.append(" ")
        else:
            traces.append(least_of(step))
            other_traces.append(least_of(step))
        pair = before
        before, step = origins[pair]
    fork = step
    shorter_is_one = pair[0] == net.behind[fork.index]
    traces.append(fork.text + " " if shorter_is_one else fork.text)
    other_traces.append(fork.text if shorter_is_one else fork.text + " ")
    return (fork, "".join(reversed(traces)), "".join(reversed(other_traces)))
