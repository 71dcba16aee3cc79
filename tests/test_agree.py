"""Promises [24], [25], [26]: an Agree, letter by letter."""

import itertools
import unittest

from keptfiles.agree import Agree
from tests.helpers import same

NAMES = ("b1", "b2", "b3", "b4", "b5", "b6", "b7")
COMMAND = (("ann", 3), "make", (("x",),))


def asked(servers, ballot, slot=5, hand="ann"):
    return tuple((hand, server, "ask", (slot, ballot)) for server in servers)


def was_set(servers, ballot, value, slot=5, hand="ann"):
    return tuple((hand, server, "set", (slot, ballot, value)) for server in servers)


class Checks(unittest.TestCase):
    def begun(self, many=3, number=0):
        agree = Agree("ann", NAMES[:many], 5, COMMAND)
        same(self, agree.begin(number), asked(NAMES[:many], (number, "ann")))
        return agree

    def yes(self, agree, source, elder=None, value=None, ballot=None, slot=5):
        return agree.hear((source, "ann", "yes", (slot, agree.ballot if ballot is None else ballot, elder, value)))

    def have(self, agree, source, ballot=None, slot=5):
        return agree.hear((source, "ann", "have", (slot, agree.ballot if ballot is None else ballot)))

    def no(self, agree, source, promised, ballot=None, slot=5):
        return agree.hear((source, "ann", "no", (slot, agree.ballot if ballot is None else ballot, promised)))

    def setting(self, many=3):
        """An Agree of so many servers that sets its command."""
        agree = self.begun(many)
        for server in NAMES[:many // 2]:
            same(self, self.yes(agree, server), ())
        same(self, self.yes(agree, NAMES[many // 2]), was_set(NAMES[:many], (0, "ann"), COMMAND))
        return agree

    def found(self, many=3):
        agree = self.setting(many)
        for server in NAMES[:many // 2 + 1]:
            self.assertIsNone(agree.found)
            same(self, self.have(agree, server), ())
        same(self, agree.found, COMMAND)
        return agree


class Beginning(Checks):
    def test_ahead_of_begin(self):
        agree = Agree("ann", ("b1",), 5, COMMAND)
        same(self, (agree.slot, agree.ballot, agree.found), (5, None, None))

    def test_attributes_and_letters(self):
        for many in (1, 3, 5, 7):
            for number in (0, 1, 10 ** 6):
                agree = self.begun(many, number)
                same(self, (agree.slot, agree.ballot, agree.found), (5, (number, "ann"), None))

    def test_by_names(self):
        agree = Agree(command="x", slot=0, servers=("b1", "b2", "b3"), hand="bob")
        same(self, agree.begin(), asked(("b1", "b2", "b3"), (0, "bob"), 0, "bob"))
        agree = Agree(command="x", slot=0, servers=("b1",), hand="bob")
        same(self, agree.begin(number=4), asked(("b1",), (4, "bob"), 0, "bob"))
        same(self, agree.hear(letter=("b1", "bob", "yes", (0, (4, "bob"), None, None))),
             was_set(("b1",), (4, "bob"), "x", 0, "bob"))

    def test_two_of_them_are_apart(self):
        first, second = self.begun(1), self.begun(1)
        self.yes(first, "b1", (0, "zoe"), "elder")
        same(self, self.yes(second, "b1"), was_set(("b1",), (0, "ann"), COMMAND))
        same(self, first.nudge(), was_set(("b1",), (0, "ann"), "elder"))


class Asking(Checks):
    def test_just_more_than_half(self):
        for many in (1, 2, 3, 4, 5, 6, 7):
            for order in itertools.islice(itertools.permutations(NAMES[:many]), 0, None, 97):
                agree = self.begun(many)
                for at, server in enumerate(order[:many // 2 + 1]):
                    expected = was_set(NAMES[:many], (0, "ann"), COMMAND) if at == many // 2 else ()
                    same(self, self.yes(agree, server), expected)
                self.assertIsNone(agree.found)

    def test_doubled_ones_count_once(self):
        agree = self.begun(5)
        for server in ("b1", "b1", "b4", "b1", "b4", "b4"):
            same(self, self.yes(agree, server), ())
        same(self, self.yes(agree, "b2"), was_set(NAMES[:5], (0, "ann"), COMMAND))

    def test_the_first_of_a_server_counts(self):
        agree = self.begun(3)
        self.yes(agree, "b1", (0, "bob"), "first")
        self.yes(agree, "b1", (0, "zoe"), "second")
        same(self, self.yes(agree, "b2"), was_set(NAMES[:3], (0, "ann"), "first"))

    def test_others_do_not_count(self):
        agree = self.begun(1, 2)
        for source in ("b2", "b0", "b", "", "ann", "s1", "b11"):
            same(self, self.yes(agree, source), ())
        for ballot in ((1, "ann"), (3, "ann"), (2, "bob"), (2, "an"), (0, "zoe")):
            same(self, self.yes(agree, "b1", None, None, ballot), ())
        for slot in (4, 6, 0):
            same(self, self.yes(agree, "b1", slot=slot), ())
        for word in ("past", "folded", "ask", "set", "Yes", "", "kept"):
            for body in ((5, 6, 7), (5, (2, "ann"), None, None), (5,)):
                same(self, agree.hear(("b1", "ann", word, body)), ())
        same(self, self.have(agree, "b1"), ())
        same(self, agree.nudge(), asked(("b1",), (2, "ann")))
        same(self, self.yes(agree, "b1"), was_set(("b1",), (2, "ann"), COMMAND))

    def test_have_while_it_asks_is_not_counted_for_the_setting(self):
        agree = self.begun(3)
        self.have(agree, "b3")
        self.yes(agree, "b1")
        self.yes(agree, "b2")
        self.have(agree, "b1")
        self.assertIsNone(agree.found)
        same(self, agree.nudge(), was_set(("b2", "b3"), (0, "ann"), COMMAND))

    def test_elder_votes_in_any_order(self):
        votes = ((None, None), ((1, "bob"), "bob 1"), ((1, "al"), "al 1"), ((0, "zoe"), "zoe 0"))
        for chosen in itertools.combinations(votes, 3):
            greatest = max((vote for vote in chosen if vote[0] is not None), key=lambda vote: vote[0])
            for order in itertools.permutations(chosen):
                agree = self.begun(5, 9)
                same(self, self.yes(agree, "b5", *order[0]), ())
                same(self, self.yes(agree, "b1", *order[1]), ())
                same(self, self.yes(agree, "b3", *order[2]), was_set(NAMES[:5], (9, "ann"), greatest[1]))

    def test_values_that_look_like_nothing(self):
        for value in (0, "", ()):
            agree = self.begun(3, 1)
            self.yes(agree, "b1", (0, "al"), value)
            same(self, self.yes(agree, "b2"), was_set(NAMES[:3], (1, "ann"), value))
            self.have(agree, "b1")
            self.have(agree, "b2")
            same(self, agree.found, value)
            same(self, agree.nudge(), ())

    def test_commands_that_look_like_nothing(self):
        for command in (0, "", ()):
            agree = Agree("ann", ("b1",), 5, command)
            agree.begin()
            same(self, self.yes(agree, "b1"), was_set(("b1",), (0, "ann"), command))
            self.have(agree, "b1")
            same(self, agree.found, command)
            same(self, (self.no(agree, "b1", (5, "bob")), agree.nudge()), ((), ()))

    def test_a_vote_of_its_own_elder_ballot(self):
        agree = self.begun(3, 1)
        self.yes(agree, "b1", (0, "ann"), "elder")
        same(self, self.yes(agree, "b3"), was_set(NAMES[:3], (1, "ann"), "elder"))


class Setting(Checks):
    def test_just_more_than_half(self):
        for many in (1, 2, 3, 4, 5, 6, 7):
            self.found(many)

    def test_doubled_ones_count_once(self):
        agree = self.setting(5)
        for server in ("b5", "b5", "b2", "b5", "b2"):
            same(self, self.have(agree, server), ())
        self.assertIsNone(agree.found)
        self.have(agree, "b1")
        same(self, agree.found, COMMAND)

    def test_others_do_not_count(self):
        agree = self.setting(1)
        for source in ("b2", "b0", "ann"):
            self.have(agree, source)
        for ballot in ((1, "ann"), (0, "bob"), (0, "al")):
            self.have(agree, "b1", ballot)
        for slot in (4, 6):
            self.have(agree, "b1", slot=slot)
        same(self, self.yes(agree, "b1", (0, "al"), "late"), ())
        self.assertIsNone(agree.found)
        same(self, agree.nudge(), was_set(("b1",), (0, "ann"), COMMAND))

    def test_more_yes_changes_nothing(self):
        agree = self.setting(3)
        same(self, self.yes(agree, "b3", (0, "al"), "late"), ())
        same(self, self.yes(agree, "b1"), ())
        same(self, agree.nudge(), was_set(NAMES[:3], (0, "ann"), COMMAND))
        self.have(agree, "b2")
        self.have(agree, "b3")
        same(self, agree.found, COMMAND)

    def test_what_was_counted_for_the_asking_does_not_count(self):
        agree = self.setting(3)
        self.have(agree, "b1")
        self.assertIsNone(agree.found)


class Nudging(Checks):
    def test_while_it_asks(self):
        agree = self.begun(5)
        same(self, agree.nudge(), asked(NAMES[:5], (0, "ann")))
        self.yes(agree, "b2")
        same(self, agree.nudge(), asked(("b1", "b3", "b4", "b5"), (0, "ann")))
        self.yes(agree, "b4")
        same(self, agree.nudge(), asked(("b1", "b3", "b5"), (0, "ann")))
        same(self, agree.nudge(), asked(("b1", "b3", "b5"), (0, "ann")))

    def test_while_it_sets(self):
        agree = self.setting(5)
        same(self, agree.nudge(), was_set(NAMES[:5], (0, "ann"), COMMAND))
        self.have(agree, "b5")
        self.have(agree, "b1")
        same(self, agree.nudge(), was_set(("b2", "b3", "b4"), (0, "ann"), COMMAND))

    def test_behind_found(self):
        agree = self.found(3)
        same(self, agree.nudge(), ())
        for server in NAMES[:3]:
            same(self, (self.yes(agree, server, (0, "al"), "late"), self.have(agree, server)), ((), ()))
            same(self, self.no(agree, server, (7, "bob")), ())
        same(self, agree.nudge(), ())
        same(self, (agree.slot, agree.ballot, agree.found), (5, (0, "ann"), COMMAND))

    def test_with_a_remembered_ballot(self):
        for many in (1, 3, 7):
            for agree in (self.begun(many), self.setting(many)):
                same(self, self.no(agree, "b1", (4, "bob")), ())
                same(self, agree.ballot, (0, "ann"))
                same(self, agree.nudge(), asked(NAMES[:many], (5, "ann")))
                same(self, agree.ballot, (5, "ann"))
                same(self, agree.nudge(), asked(NAMES[:many], (5, "ann")))

    def test_the_greatest_is_remembered(self):
        for promises in itertools.permutations(((4, "bob"), (2, "zoe"), (4, "al"))):
            agree = self.begun(3)
            for server, promised in zip(NAMES, promises):
                self.no(agree, server, promised)
            same(self, agree.nudge(), asked(NAMES[:3], (5, "ann")))

    def test_an_equal_number_of_a_greater_hand(self):
        agree = self.begun(3, 4)
        self.no(agree, "b1", (4, "bob"))
        same(self, agree.nudge(), asked(NAMES[:3], (5, "ann")))

    def test_what_is_not_above_is_not_remembered(self):
        agree = self.begun(3, 4)
        for promised in ((4, "ann"), (4, "al"), (3, "zoe"), (0, "bob")):
            same(self, self.no(agree, "b2", promised), ())
            same(self, agree.nudge(), asked(NAMES[:3], (4, "ann")))

    def test_no_of_any_ballot(self):
        for ballot in ((0, "ann"), (9, "ann"), (3, "bob")):
            agree = self.begun(3)
            self.no(agree, "b3", (6, "bob"), ballot)
            same(self, agree.nudge(), asked(NAMES[:3], (7, "ann")))

    def test_no_of_other_sources_and_slots(self):
        agree = self.begun(3)
        for source in ("b4", "ann", "s1", ""):
            same(self, self.no(agree, source, (6, "bob")), ())
        for slot in (4, 6):
            same(self, self.no(agree, "b1", (6, "bob"), slot=slot), ())
        same(self, agree.nudge(), asked(NAMES[:3], (0, "ann")))

    def test_it_goes_on_in_spite_of_no(self):
        agree = self.begun(3)
        self.no(agree, "b1", (6, "bob"))
        self.yes(agree, "b2")
        same(self, self.yes(agree, "b3"), was_set(NAMES[:3], (0, "ann"), COMMAND))
        self.no(agree, "b1", (7, "bob"))
        self.have(agree, "b2")
        self.have(agree, "b3")
        same(self, agree.found, COMMAND)

    def test_elder_answers_count_no_more(self):
        agree = self.begun(3)
        self.yes(agree, "b1", (0, "al"), "elder")
        self.no(agree, "b2", (0, "zoe"))
        agree.nudge()
        same(self, self.yes(agree, "b1", None, None, (0, "ann")), ())
        same(self, self.yes(agree, "b3", None, None, (0, "ann")), ())
        same(self, agree.nudge(), asked(NAMES[:3], (1, "ann")))
        self.yes(agree, "b3")
        same(self, self.yes(agree, "b2"), was_set(NAMES[:3], (1, "ann"), COMMAND))
        self.have(agree, "b1", (0, "ann"))
        self.have(agree, "b3", (0, "ann"))
        self.assertIsNone(agree.found)
        self.have(agree, "b1")
        self.have(agree, "b3")
        same(self, agree.found, COMMAND)

    def test_it_asks_again_behind_a_setting(self):
        agree = self.setting(3)
        self.have(agree, "b1")
        self.no(agree, "b2", (0, "bob"))
        same(self, agree.nudge(), asked(NAMES[:3], (1, "ann")))
        same(self, self.have(agree, "b3"), ())
        same(self, self.have(agree, "b2", (0, "ann")), ())
        self.assertIsNone(agree.found)
        self.yes(agree, "b1", (0, "ann"), COMMAND)
        same(self, self.yes(agree, "b3", (0, "bob"), "other"), was_set(NAMES[:3], (1, "ann"), "other"))

    def test_what_was_remembered_does_not_come_again(self):
        agree = self.begun(3)
        self.no(agree, "b1", (4, "bob"))
        agree.nudge()
        same(self, self.no(agree, "b1", (4, "bob")), ())
        same(self, self.no(agree, "b1", (5, "al")), ())
        same(self, agree.nudge(), asked(NAMES[:3], (5, "ann")))
        self.no(agree, "b1", (5, "bob"))
        same(self, agree.nudge(), asked(NAMES[:3], (6, "ann")))


if __name__ == "__main__":
    unittest.main()
