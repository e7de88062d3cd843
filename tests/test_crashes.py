"""Point 56: what a crash removes."""

import unittest

from rollwarden.machine import acts
from rollwarden.plans import Plan
from samples import behind, chain, counter, play

IDLE = (0, None, ())

# A client's question on its way down a chain of three services, and the answer on its way back.
DOWN = (("ask", 0, 0, 1, 0), ("take", 0, 0, 0), ("take", 1, 0, 0), ("take", 2, 0, -1))


def instances(program, run):
    return behind(program, run)[4]


class TestAllowed(unittest.TestCase):
    def crashes(self, program, run):
        found = acts(program, Plan(program, ()), behind(program, run))
        return [act for act in found if act[0] == "crash"]

    def test_an_instance_with_work_or_a_message(self):
        program = chain((2, 2, 1), crashes=1)
        self.assertEqual(self.crashes(program, []), [])
        self.assertEqual(self.crashes(program, [("ask", 0, 0, 0, 1)]), [("crash", 0, 1)])
        self.assertEqual(self.crashes(program, [("ask", 0, 0, 0, 1), ("take", 0, 1, 0)]),
                         [("crash", 0, 1), ("crash", 1, 0)])

    def test_only_while_there_is_a_budget(self):
        run = [("ask", 0, 0, 0, 0)]
        self.assertEqual(self.crashes(chain(), run), [])
        program = chain(clients=2, asks=2, crashes=1)
        run += [("ask", 1, 1, 0, 0), ("crash", 0, 0)]
        self.assertEqual(self.crashes(program, run[:-1]), [("crash", 0, 0), ("crash", 1, 0)])
        self.assertEqual(self.crashes(program, run), [])


class TestOneInstance(unittest.TestCase):
    def test_all_its_messages_go(self):
        program = counter(clients=2, asks=2, crashes=2)
        run = [("ask", 0, 0, 1, 0), ("ask", 1, 0, 0, 0), ("crash", 0, 0)]
        state, signs = play(program, Plan(program, ()), run)
        self.assertEqual(state, (
            0, 0, (0,), ((0, 0),), ((IDLE, IDLE),), ((0, 0, 1), (1, 0, 0)), 2, (0, 0, 1)))
        self.assertEqual(signs[-1], ())

    def test_the_clients_wait_for_ever(self):
        program = counter(asks=3, crashes=1)
        state = behind(program, [("ask", 0, 0, 1, 0), ("crash", 0, 0)])
        self.assertEqual(acts(program, Plan(program, ()), state), [])

    def test_the_record_and_the_version_stay(self):
        program = counter(asks=2, crashes=1)
        run = [("step",), ("ask", 0, 0, 0, 1), ("take", 0, 1, -1), ("ask", 0, 0, 0, 1), ("crash", 0, 1)]
        state = behind(program, run, [("raise", 0, 1, 1)])
        self.assertEqual((state[0], state[3], state[4]), (1, ((1, 1),), ((IDLE, (1, None, ())),)))

    def test_the_messages_of_other_instances_stay(self):
        program = counter(clients=2, asks=2, crashes=1)
        run = [("ask", 0, 0, 1, 0), ("ask", 1, 0, 0, 1), ("crash", 0, 0)]
        self.assertEqual(instances(program, run), ((IDLE, (0, None, ((0, 0, 0, 1, 1),))),))


class TestChains(unittest.TestCase):
    NOTHING = ((IDLE,),) * 3

    def test_each_instance_of_a_chain_takes_all_of_it(self):
        program = chain(crashes=1)
        # How many instances have a part of the chain behind these first acts.
        for length, parts in ((1, 1), (2, 2), (3, 3), (4, 2)):
            for service in range(parts):
                with self.subTest(length=length, service=service):
                    run = [*DOWN[:length], ("crash", service, 0)]
                    self.assertNotEqual(instances(program, run[:-1]), self.NOTHING)
                    self.assertEqual(instances(program, run), self.NOTHING)

    def test_records_stay(self):
        state = behind(chain(crashes=1), [*DOWN, ("crash", 0, 0)])
        self.assertEqual(state[3], ((0, 0), (0, 0), (0, 1)))
        self.assertEqual(state[5:], (((0, 0, 1),), 1, (0, 0, 0)))

    def test_a_chain_that_waits_for_nothing(self):
        program = chain(crashes=1)
        run = [*DOWN, ("go", 1, 0, -1), ("crash", 0, 0)]
        self.assertEqual(instances(program, run[:-1])[0], ((0, (0, 1, 1, 1, 0, 0, 0, 0), ()),))
        self.assertEqual(instances(program, run), self.NOTHING)

    def test_a_chain_that_begins_in_the_middle(self):
        program = chain(crashes=1)
        run = [("ask", 0, 1, 0, 0), ("take", 1, 0, 0)]
        for service in (1, 2):
            self.assertEqual(instances(program, [*run, ("crash", service, 0)]), self.NOTHING)

    def test_messages_of_clients_on_the_way_stay(self):
        program = chain(clients=2, asks=3, crashes=1)
        for service, question in ((0, 0), (1, 1), (2, 2)):
            for crashed in range(3):
                if crashed == service:
                    continue
                with self.subTest(service=service, crashed=crashed):
                    run = [*DOWN[:3], ("ask", 1, question, 0, 0), ("crash", crashed, 0)]
                    expected = [(IDLE,)] * 3
                    expected[service] = ((0, None, ((question, 0, 0, 1, 1),)),)
                    self.assertEqual(instances(program, run), tuple(expected))


class TestTwoChains(unittest.TestCase):
    # Chain 0 goes over the instances 0, chain 1 over the instances 1, and both end in the same queue.
    RUN = (
        ("ask", 0, 0, 0, 0), ("ask", 1, 0, 1, 1), ("take", 0, 0, 0), ("take", 0, 1, 1), ("take", 1, 0, 0), ("take", 1, 1, 0),
    )
    FIRST = (
        (IDLE, (0, (0, 1, 1, -1, 1, 0, 1, 1), ())),
        (IDLE, (0, (1, 1, 1, -1, 1, 1, 0, 1), ())),
        ((0, None, ((2, 1, 1, 1, 1),)),),
    )
    SECOND = (
        ((0, (0, 0, 1, -1, 1, 0, 0, 0), ()), IDLE),
        ((0, (1, 0, 1, -1, 1, 1, 0, 0), ()), IDLE),
        ((0, None, ((2, 0, 1, 1, 0),)),),
    )

    def program(self):
        return chain((2, 2, 1), clients=2, asks=2, crashes=2)

    def test_the_other_chain_stays(self):
        for service in (0, 1):
            self.assertEqual(instances(self.program(), [*self.RUN, ("crash", service, 0)]), self.FIRST)
            self.assertEqual(instances(self.program(), [*self.RUN, ("crash", service, 1)]), self.SECOND)

    def test_the_instance_where_both_are_takes_both(self):
        self.assertEqual(instances(self.program(), [*self.RUN, ("crash", 2, 0)]), ((IDLE,) * 2, (IDLE,) * 2, (IDLE,)))

    def test_a_second_crash(self):
        state = behind(self.program(), [*self.RUN, ("crash", 0, 0), ("crash", 1, 1)])
        self.assertEqual(state[4], ((IDLE,) * 2, (IDLE,) * 2, (IDLE,)))
        self.assertEqual(state[7], (0, 0, 0))

    def test_the_other_chain_goes_on(self):
        run = [*self.RUN, ("crash", 1, 0), ("take", 2, 0, -1), ("go", 1, 1, -1), ("go", 0, 1, -1)]
        state, signs = play(self.program(), Plan(self.program(), ()), run)
        self.assertEqual(signs[-1], ("answered", 1, 1))
        self.assertEqual(state[5], ((0, 0, 0), None))

    def test_both_chains_through_one_instance(self):
        # Chain 0 is worked on by instance 0 of service 1, and chain 1 waits in the queue of that instance.
        run = [
            ("ask", 0, 0, 0, 0), ("ask", 1, 0, 1, 1), ("take", 0, 0, 0), ("take", 1, 0, 0), ("take", 0, 1, 0)]
        nothing = ((IDLE,) * 2, (IDLE,) * 2, (IDLE,))
        self.assertEqual(instances(self.program(), [*run, ("crash", 1, 0)]), nothing)
        # The message of the other chain stays in the queue of an instance whose work goes.
        rest = ((IDLE, (0, (0, 1, 1, -1, 1, 0, 1, 1), ())), ((0, None, ((1, 1, 1, 0, 1),)), IDLE), (IDLE,))
        for crash in (("crash", 0, 0), ("crash", 2, 0)):
            self.assertEqual(instances(self.program(), [*run, crash]), rest)
        left = ((0, (0, 0, 1, -1, 1, 0, 0, 0), ()), IDLE)
        kept = ((0, (1, 0, 1, -1, 1, 1, 0, 0), ()), IDLE)
        self.assertEqual(instances(self.program(), [*run, ("crash", 0, 1)]),
                         (left, kept, ((0, None, ((2, 0, 1, 1, 0),)),)))


class TestDoubled(unittest.TestCase):
    RUN = (("ask", 0, 0, 1, 0), ("double", 0, 0, 0), ("take", 0, 0, 0))

    def test_the_other_message_stays(self):
        program = chain(doubles=1, crashes=1)
        message = (0, 1, 0, 0, 0)
        for run in ([*self.RUN, ("crash", 1, 0)], [*self.RUN, ("take", 1, 0, 0), ("crash", 2, 0)]):
            self.assertEqual(instances(program, run), (((0, None, (message,)),), (IDLE,), (IDLE,)))

    def test_both_go_with_their_instance(self):
        program = chain(doubles=1, crashes=1)
        self.assertEqual(instances(program, [*self.RUN, ("crash", 0, 0)]), ((IDLE,),) * 3)
        self.assertEqual(instances(program, [*self.RUN[:2], ("crash", 0, 0)]), ((IDLE,),) * 3)

    def test_the_other_message_may_still_be_answered(self):
        program = chain(doubles=1, crashes=1)
        run = [*self.RUN, ("crash", 1, 0), *DOWN[1:], ("go", 1, 0, -1), ("go", 0, 0, -1)]
        self.assertEqual(play(program, Plan(program, ()), run)[1][-1], ("answered", 0, 1))


if __name__ == "__main__":
    unittest.main()
