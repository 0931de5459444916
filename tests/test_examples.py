"""The worked examples, as they stand in the document."""

import unittest

from halfbits.errors import BitError

EXAMPLES = (
    """
>>> from halfbits.words import is_within, joined, met, settlings
>>> [settlings('0?'), is_within('01', '0?'), joined(['010', '000']), met('0?', '?1')]
[['00', '01'], True, '0?0', '01']
""",
    """
>>> from halfbits.nets import run
>>> net = (2, (('not', 0), ('or', 0, 2)), (3,))
>>> [run(net, '10'), run(net, '?0')]
['1', '?']
""",
    """
>>> from halfbits.tables import first_parting, table_of
>>> [table_of((2, (('and', 0, 1),), (2,))), first_parting((1, (('not', 0), ('or', 0, 1)), (2,)), (1, (('1',),), (1,)))]
[(2, ('0', '0', '0', '1')), '?']
""",
    """
>>> from halfbits.sharp import is_sharp_sum, primes, surely
>>> table = (3, ('0', '0', '0', '1', '1', '0', '1', '1'))
>>> [surely(table, '11?'), primes(table, 0, '1'), is_sharp_sum(table, 0, ['1?0', '?11'])]
['1', ['11?', '1?0', '?11'], False]
""",
    """
>>> from halfbits.tellings import why_not
>>> [why_not((1, ('0', '1', '?'))), why_not((1, ('0', '1', '0')))]
[None, ('1', '?')]
""",
    """
>>> from halfbits.demands import first_missed, picks_of
>>> demand = (1, 1, (('?', ('0', '1')), ('0', ('0',)), ('1', ('1',))))
>>> other = (1, 1, (('?', ('0', '?')), ('0', ('0',)), ('1', ('1',))))
>>> [picks_of(demand), picks_of(other), first_missed(demand, (1, (), (0,)))]
[None, (1, 0, 0), 0]
""",
    """
>>> from halfbits.stores import reads, rows_of
>>> [reads('low', '?', 2), rows_of(('high', 'plain'), 1, '?0')]
[['00', '01', '0?', '11', '?1'], ['00', '10', '?0']]
""",
    """
>>> from halfbits.rounds import least_rounds, outlines_of
>>> demand = (1, 2, (('0', ('00',)), ('1', ('11',)), ('?', ('0?', '?1'))))
>>> [least_rounds(demand), outlines_of(demand, 1), outlines_of(demand, 2)]
[2, None, ((('0', '00'), ('1', '11')), (('00', '01', '11'),))]
""",
    """
>>> from halfbits.refusals import shows_refusal
>>> demand = (1, 1, (('0', ('0',)), ('1', ('1',)), ('?', ('0', '1'))))
>>> [shows_refusal(demand, 3, ((('0', '0', 2),), None)), shows_refusal(demand, 3, ((), None))]
[True, False]
""",
    """
>>> from halfbits.codes import losses, read_as, reflected
>>> [losses(('00', '01', '10'), True), read_as(reflected(2), '?1')]
[[1], [1, 2]]
""",
    """
>>> from halfbits.nets import run
>>> from halfbits.sorting import order_net, place_of, word_at
>>> [place_of('0?1'), word_at(3, 7), run(order_net(2), '1?01')]
[3, '?10', '011?']
""",
    """
>>> from halfbits.sorting import first_unsorted, sorted_by
>>> [sorted_by(((0, 1), (1, 2), (0, 1)), ['10', '?1', '00']), first_unsorted(3, ((0, 1), (1, 2)))]
[['00', '?1', '10'], '110']
""",
    """
>>> from halfbits.boards import Board
>>> board = Board(2)
>>> [board.add(('not', 0)), board.show((2,)), board.run('?1'), board.dull_word(), len(board)]
[2, None, '?', None, 1]
""",
    """
>>> from halfbits.boards import Board, trial
>>> trial(Board(1), [('add', ('not', 0)), [('show', (1,)), ('run', '0')], ('run', '0')])
[1, [1, '1'], '0']
""",
    """
>>> from halfbits.boards import Board
>>> board = Board(1)
>>> board.drop()
raises NoDrop
""",
    """
>>> from halfbits.benches import Bench
>>> bench = Bench(1, 2)
>>> bench.tell('0', ('00',))
>>> bench.tell('1', ('11',))
>>> bench.tell('?', ('0?', '?1'))
>>> [bench.least(), bench.ask(1)[0], len(bench)]
[2, 'refusal', 3]
""",
    """
>>> from halfbits.machines import outcomes
>>> machine = (('low',), ('plain',), (2, (), (0, 1)))
>>> [outcomes(machine, '?', 1), outcomes(machine, '?', 2)]
[['0'], ['0', '1', '?']]
""",
)


def answer_of(example):
    """What the last line of an example returns or raises, and what the document says of it."""
    *lines, expected = example.strip().split("\n")
    rows = [line.removeprefix(">>> ") for line in lines]
    names = {}
    for row in rows[:-1]:
        exec(row, names)
    try:
        return repr(eval(rows[-1], names)), expected
    except BitError as error:
        return "raises " + type(error).__name__, expected


class ExamplesTest(unittest.TestCase):
    def test_examples(self):
        self.assertEqual(len(EXAMPLES), 17)
        for example in EXAMPLES:
            with self.subTest(example=example):
                answer, expected = answer_of(example)
                self.assertEqual(answer, expected)


if __name__ == "__main__":
    unittest.main()
