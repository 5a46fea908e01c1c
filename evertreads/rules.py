"""Rules: which integers are in a set that repeats itself both ways for ever.

Twenty rays along one line can have a common period of sixty digits, so a rule is not told by that period. It is a
pair (root, nodes). A node (period, bits, low, high) asks whether an integer has one of the remainders that the bits
tell, and leads on to `high` if it has, to `low` if not: to 0, which says that the integer is not in the set, to 1,
which says that it is, or to the node with that number, where nodes[0] has the number 2. On each way through the nodes
the questions ascend, and no two nodes are alike. So equal nodes are told for what follows from the same questions by
the rules of sets alone.
"""

from evertreads.bits import full, least, window
from evertreads.patterns import common_multiple

# truths by whether the first set and the second one hold what is asked for
BOTH = ((False, False), (False, True))
EITHER = ((False, True), (True, True))
FIRST = ((False, False), (True, False))
ONE = ((False, True), (True, False))

NEVER = (0, ())
# rules with common periods up to this are told by one node
MOST_TABLED = 360


def plain(period, bits):
    """The rule of the integers whose remainders by the period have a 1."""
    period, bits = least(period, bits)
    if period == 1:
        return bits, ()
    return 2, ((period, bits, 0, 1),)


def holds(rule, number):
    at, nodes = rule
    while at > 1:
        period, bits, low, high = nodes[at - 2]
        at = high if (bits >> (number % period)) & 1 else low
    return at == 1


def told(rule, start, length):
    """The bits about so many integers from the start on."""
    root, nodes = rule
    rows = [0, full(length)]
    for period, bits, low, high in nodes:
        asked = window(period, bits, start, length)
        rows.append(rows[low] ^ (asked & (rows[low] ^ rows[high])))
    return rows[root]


def common_period(rule):
    """A period by which the rule repeats itself, the least one that the periods of its nodes show."""
    return common_multiple([node[0] for node in rule[1]])


def tabled(rule):
    """The same rule by one node if its period is small."""
    if len(rule[1]) == 0:
        return rule
    length = common_period(rule)
    if length > MOST_TABLED:
        return rule
    return plain(length, told(rule, 0, length))


def answers(nodes, at, question):
    """Where the question leads from here if it is answered by no, and by yes."""
    if at > 1 and nodes[at - 2][:2] == question:
        return nodes[at - 2][2:]
    return at, at


def layers(one, other, questions):
    """For each question a dict from the pairs of places in the two rules, ahead of it, to the pairs behind it.

    Behind them one dict whose keys are the pairs at the end.
    """
    found = []
    ahead = {(one[0], other[0]): True}
    for question in questions:
        edges = {}
        for here, there in ahead:
            low, high = answers(one[1], here, question)
            other_low, other_high = answers(other[1], there, question)
            edges[(here, there)] = ((low, other_low), (high, other_high))
        found.append(edges)
        ahead = {pair: True for edge in list(edges.values()) for pair in edge}
    found.append(ahead)
    return found


def joined(one, other, truths):
    """The rule of the integers for which the truths say so by the two rules."""
    questions = sorted(set([node[:2] for node in one[1] + other[1]]))
    found = layers(one, other, questions)
    numbers = {(here, there): int(truths[here][there]) for here, there in found[-1]}
    nodes = []
    # from the last question on, so that each node comes behind those to which it leads
    for at in range(len(questions) - 1, -1, -1):
        leads = {pair: (numbers[low], numbers[high]) for pair, (low, high) in found[at].items()}
        fresh = sorted(set([lead for lead in list(leads.values()) if lead[0] != lead[1]]))
        known = {lead: len(nodes) + 2 + place for place, lead in enumerate(fresh)}
        numbers = {pair: known.get(lead, lead[0]) for pair, lead in leads.items()}
        nodes.extend([questions[at] + lead for lead in fresh])
    return tabled((numbers[(one[0], other[0])], tuple(nodes)))
