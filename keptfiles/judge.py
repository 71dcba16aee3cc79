"""The judge: whether one order of the deeds, on a plain tree of files, explains all answers of a history."""

from keptfiles.errors import BadDeed, is_from, is_int, is_name
from keptfiles.forms import is_aside, is_deed
from keptfiles.meaning import state_of
from keptfiles.trees import (ROOT_ALONE, length_in, names_in, row_at, with_length, with_moved, with_path, with_row,
                             without_path)


class Trouble:
    """The first rule that is not true, where it is not, and what should be there."""

    def __init__(self, rule, place, due):
        self.rule = rule
        self.place = place
        self.due = due


class Call:
    """One call of a history, and its answer as soon as it is there; ahead is the number of answers ahead of it."""

    def __init__(self, caller, deed, ahead):
        self.caller = caller
        self.deed = deed
        self.ahead = ahead
        self.is_answered = False
        self.answer = None
        self.slot = None


def plain_start():
    """The plain tree with the root alone."""
    return ROOT_ALONE


def plain_answer(tree, deed):
    """The answer to a deed that leaves the tree as it is."""
    word = deed[0]
    if word == "list":
        return names_in(tree, deed[1])
    if word == "size":
        return length_in(tree, deed[1])
    if word == "read":
        letters, trouble = row_at(tree, deed[1], deed[2])
        return trouble if letters is None else letters
    return "aside"


def plain_behind_deed(tree, deed):
    """As plain_step; it surely is a deed."""
    word = deed[0]
    if word == "make":
        return with_path(tree, deed[1], None)
    if word == "file":
        return with_path(tree, deed[1], ())
    if word == "move":
        return with_moved(tree, deed[1], deed[2])
    if word == "drop":
        return without_path(tree, deed[1])
    if word == "cut":
        return with_length(tree, deed[1], deed[2])
    if word == "write":
        return with_row(tree, deed[1], deed[2], deed[3])
    return tree, plain_answer(tree, deed)


def plain_step(tree, deed):
    """The pair of the plain tree behind a deed, and of its answer."""
    if not is_deed(deed):
        raise BadDeed(deed)
    return plain_behind_deed(tree, deed)


def is_event(event):
    """Whether a value is a call or an answer, wherever it stands."""
    if not isinstance(event, tuple) or len(event) < 3 or not is_name(event[1]):
        return False
    if event[0] == "call":
        return len(event) == 3 and is_deed(event[2])
    return event[0] == "answer" and len(event) == 4 and is_from(event[3], 0)


def are_in_turn(history):
    """Whether each hand calls and is answered in turn."""
    waits = {}
    for event in history:
        hand = event[1]
        is_call = event[0] == "call"
        if waits.get(hand, False) == is_call:
            return False
        waits[hand] = is_call
    return True


def need_history(history):
    """Raises BadDeed if a value is no history."""
    if not isinstance(history, tuple) or not all([is_event(event) for event in history]):
        raise BadDeed(history)
    if not are_in_turn(history):
        raise BadDeed(history)


def is_pair(pair):
    """Whether a value is a pair of integers."""
    return isinstance(pair, tuple) and len(pair) == 2 and is_int(pair[0]) and is_int(pair[1])


def need_paper(paper):
    """Raises BadDeed if a value cannot be a paper."""
    if not isinstance(paper, tuple) or not all([is_pair(pair) for pair in paper]):
        raise BadDeed(paper)


def calls_of(history):
    """The pair of the Calls of a history, and of those of them that are answered, in the order of their answers."""
    calls = []
    answered = []
    last = {}
    for event in history:
        hand = event[1]
        if event[0] == "call":
            last[hand] = Call(hand, event[2], len(answered))
            calls.append(last[hand])
        else:
            call = last[hand]
            call.is_answered = True
            call.answer, call.slot = event[2:]
            answered.append(call)
    return calls, answered


def wrong_pair(calls, paper):
    """The Trouble of rule 1: pairs name calls that are not aside, ascending, and each has a slot of its own."""
    least = 0
    seen = {}
    for place, (number, slot) in enumerate(paper):
        if number < least or number >= len(calls) or is_aside(calls[number].deed):
            return Trouble(1, place, None)
        if slot < 0 or slot in seen:
            return Trouble(1, place, None)
        least = number + 1
        seen[slot] = True
    return None


def wrong_slot(calls, slots):
    """The Trouble of rule 2: answered calls have the slots of their answers."""
    for number, call in enumerate(calls):
        if call.is_answered and not is_aside(call.deed) and slots.get(number) != call.slot:
            return Trouble(2, number, call.slot)
    return None


def wrong_order(calls, answered, slots):
    """The Trouble of rule 3: a call comes behind all that were answered ahead of it."""
    # Place n of this row is the greatest slot of the first n answers.
    greatest = [-1]
    for call in answered:
        greatest.append(greatest[-1] if is_aside(call.deed) else max(greatest[-1], call.slot))
    for number, call in enumerate(calls):
        if number in slots and slots[number] <= greatest[call.ahead]:
            return Trouble(3, number, greatest[call.ahead])
    return None


def in_order(paper):
    """The pairs of a paper, slots ascending."""
    return sorted(paper, key=lambda pair: pair[1])


def wrong_answer(calls, paper):
    """The Trouble of rule 4: done in the order of their slots, the deeds have the answers that are told."""
    tree = plain_start()
    for number, _ in in_order(paper):
        call = calls[number]
        tree, answer = plain_behind_deed(tree, call.deed)
        if call.is_answered and call.answer != answer:
            return Trouble(4, number, answer)
    return None


def trouble_of(history, paper):
    """The Trouble of the first rule that is not true, None if the paper explains the history."""
    need_history(history)
    need_paper(paper)
    calls, answered = calls_of(history)
    slots = {number: slot for number, slot in paper}
    trouble = wrong_pair(calls, paper)
    if trouble is None:
        trouble = wrong_slot(calls, slots)
    if trouble is None:
        trouble = wrong_order(calls, answered, slots)
    if trouble is None:
        trouble = wrong_answer(calls, paper)
    return trouble


def explained(history, paper):
    """Whether a paper explains a history."""
    return trouble_of(history, paper) is None


def paper_of(world):
    """The paper of a world."""
    calls, _ = calls_of(world.history())
    done = {hand: slot for hand, _, answer, slot in state_of(world).last if answer == "done"}
    greatest = {}
    paper = []
    for number, call in enumerate(calls):
        known = greatest.get(call.caller, -1)
        # Without an answer, the book tells whether the deed is done: its slot is none of an earlier deed then.
        slot = call.slot if call.is_answered else done.get(call.caller, -1)
        if call.is_answered:
            greatest[call.caller] = max(known, slot)
        if not is_aside(call.deed) and (call.is_answered or slot > known):
            paper.append((number, slot))
    return tuple(paper)


def plain_behind(history, paper):
    """The plain tree that the deeds of a paper lead to, in the order of their slots."""
    need_history(history)
    need_paper(paper)
    calls, _ = calls_of(history)
    tree = plain_start()
    for number, _ in in_order(paper):
        tree, _ = plain_behind_deed(tree, calls[number].deed)
    return tree
