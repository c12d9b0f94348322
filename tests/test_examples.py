"""The examples of the document, just as they stand there."""

import doctest
import unittest

FORMS = """
>>> from outsoonest.forms import healing, read_rows, read_value, value_length, write_row, write_value
>>> write_value([None, -3, "ab"]), value_length(256 ** 2)
((4, 1, 3, 0, 2, 1, 2, 3, 1, 2, 0, 1), 5)
>>> octets = write_row(("told", (None, 3))) + (4, 1, 2, 3)
>>> read_value((9, 9) + octets, 2), read_rows(octets), healing(octets)
((('told', (None, 3)), 19), ((('told', (None, 3)),), 17), (0, 0))
"""

HOUSES = """
>>> from outsoonest.houses import last_alone, soonest_alone, way_alone, way_holds, with_shut
>>> house = ((0, 0, 1), ((0, 1, 1, 1, ()), (1, 2, 2, 1, (3,)), (0, 2, 5, 1, ())), (None, 6, None))
>>> soonest_alone(house, 0, 0, 9), way_alone(house, 0, 0, 9), last_alone(house, 6)
((0, 1, 3), ((0, 0), (1, 1)), (3, 4, 6))
>>> last_alone(with_shut(house, 1, 4, 5), 6), way_holds(house, 0, 0, 9, [[2, 1]]), way_alone(house, 1, 5, 7)
((1, 2, 6), True, ((1, 5),))
"""

PEOPLE = """
>>> from outsoonest.people import by_room, first_lot, in_order, lot_ranks, words_of
>>> house = ((0, 0, 1), ((0, 1, 1, 1, ()), (1, 2, 2, 1, (3,))), (None, 6, None))
>>> people = ((0, 0, 2), (1, 4, 0), (2, 0, 5), (1, 0, 2))
>>> in_order(people), lot_ranks(people, (0, 2)), first_lot(people, [(0, 2, 3), (1,), (1, 3)])
((1, 0, 3, 2), (1, 0, 1, 0), (1, 3))
>>> by_room(house, people, 3), words_of(house, people, 3), words_of(house, people, 6)
((1, 1, 1), ('there', 'within', 'out', 'there'), ('there', 'lost', 'out', 'lost'))
"""

UNROLLED = """
>>> from outsoonest.runs import lost_of, out_by, outs, run_faults, where
>>> from outsoonest.unrolled import begins, goals
>>> house = ((0, 0, 1), ((0, 1, 1, 2, ()), (1, 2, 1, 1, (2,))), (3, None, None))
>>> task, run = (house, ((0, 0, 0), (0, 0, 1), (1, 1, 0)), 0, 4), [[(0, 0), (1, 1)], [(0, 0), (1, 3)], [(1, 4)]]
>>> outs(task, run), out_by(task, run), where(task, run, 1, 2), where(task, run, 2, 0)
((2, 4, None), (0, 0, 1, 1, 2), ('room', 1), ('within', None, 1))
>>> run_faults(task, [[(0, 0), (1, 2)], [(0, 3)], []]), lost_of(task, [[], [], []])
((('entry', 0, 1), ('entry', 1, 0)), (0, 1))
>>> begins(task), goals(task)
((0, 0, 4), ((2,), (5,), (8,), (10,), (12,)))
"""

FLOWS = """
>>> from outsoonest.flows import cut_worth, cuts, greatest, led_on, reached, spare, turned_by, unlike, walk, worth
>>> net = (4, ((0, 1, 2), (0, 2, 1), (1, 2, None), (1, 3, 1), (2, 3, 2)))
>>> worth(net, 0, 3, greatest(net, 0, 3)), cuts(net, 0, 3), cut_worth(net, (0, 1)), cut_worth(net, (0, 2))
(3, ((0,), (0, 1, 2)), None, 4)
>>> load = (2, 0, 2, 0, 2)
>>> walk(net, load, 2, [3, 1]), reached(net, (2, 1, 1, 1, 2), 0), spare(net, load, [(2, -1), (3, 1)])
(((2, -1), (3, 1)), (0,), 1)
>>> turned_by(net, load, ((2, -1), (3, 1)), 1), led_on(net, 0, 3, (1, 0, 1, 0, 1))
((2, 0, 1, 1, 2), (2, 1, 1, 1, 2))
>>> unlike((2, ((0, 1, 5),)), 0, 1, (1,), (4,))
((3, ((0, 1),)),)
"""

SOONEST = """
>>> from outsoonest.soonest import brought, goal_net, most_to, soonest, soonest_run, soonest_to, walls, walls_of
>>> net = (4, ((0, 1, 2), (1, 2, 1), (1, 3, None), (0, 3, 1)))
>>> most_to(net, 0, (2, 3)), most_to(net, 0, [3, 2]), walls(net, 0, (2, 3))
((1, 3), (3, 3), ((0, 1, 3), (0,)))
>>> brought(net, 0, (2, 3), soonest_to(net, 0, (2, 3))), soonest_to((2, ((0, 1, None),)), 0, [1])
((1, 2), None)
>>> house = ((0, 1), ((0, 1, 2, 1, ()),), (None, None))
>>> task = (house, ((0, 0, 1), (0, 0, 1)), 0, 4)
>>> soonest(task), walls_of(task)[2:], goal_net((house, (), 0, 0))
((0, 0, 1, 2, 2), ((0, 2, 4, 6, 7, 8, 9), (), ()), ((5, ((1, 3, None), (3, 4, None))), 2, (), (3,), 4))
>>> sorted(soonest_run(task))
[((0, 0),), ((0, 1),)]
"""

EXAMPLES = {"forms": FORMS, "houses": HOUSES, "people": PEOPLE, "unrolled": UNROLLED, "flows": FLOWS, "soonest": SOONEST}


class Examples(unittest.TestCase):
    def test_examples(self):
        for name, text in EXAMPLES.items():
            with self.subTest(name):
                test = doctest.DocTestParser().get_doctest(text, {}, name, None, 0)
                told = []
                result = doctest.DocTestRunner().run(test, out=told.append)
                self.assertGreater(result.attempted, 2)
                self.assertEqual(result.failed, 0, "".join(told))


if __name__ == "__main__":
    unittest.main()
