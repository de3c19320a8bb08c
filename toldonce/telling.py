"""What is told at a tick, group by group."""

from toldonce.knowing import FIRES
from toldonce.limits import ANY
from toldonce.objects import Note


def notes_now(state):
    notes = []
    for group, pairs in enumerate(unsilenced_by_group(state)):
        note = note_of(state, group, gravest(state.rules, pairs))
        if note is not None:
            notes.append(note)
    return notes


# Gives None where nothing is told of the group, which then stays as it was told last.
def note_of(state, group, seen):
    told = state.told[group]
    if seen != told.pairs:
        if not is_ago(told.last, state.wait, state.now):
            return None
        note = Note(group, 0, those_not_in(seen, told.pairs), those_not_in(told.pairs, seen))
    else:
        if len(seen) == 0 or state.again == 0 or not is_ago(told.last, state.again, state.now):
            return None
        note = Note(group, 1, [], [])
    told.pairs = seen
    told.last = state.now
    return note


def is_ago(last, span, now):
    return last is None or now - last >= span


def those_not_in(pairs, others):
    left_out = {}
    for pair in others:
        left_out[pair] = True
    return [pair for pair in pairs if pair not in left_out]


def unsilenced_by_group(state):
    silenced = silenced_now(state)
    groups = [[] for told in state.told]
    for pair, known in state.known.items():
        group = state.series[pair[1]].group
        if known[0] == FIRES and not is_silenced(silenced, pair[0], group):
            groups[group].append(pair)
    return groups


# The rules and groups of the silences that hold, with ANY as it stands there.
def silenced_now(state):
    silenced = {}
    for silence in state.silences:
        if not silence.ended and silence.start <= state.now and state.now < silence.till:
            silenced[(silence.rule, silence.group)] = True
    return silenced


def is_silenced(silenced, rule, group):
    if (rule, group) in silenced or (rule, ANY) in silenced:
        return True
    return (ANY, group) in silenced or (ANY, ANY) in silenced


def gravest(rules, pairs):
    top = max([rules[pair[0]].level for pair in pairs], default=0)
    return [pair for pair in pairs if rules[pair[0]].level == top]
