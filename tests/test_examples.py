"""The worked examples, as they stand in the document."""

import unittest

EXAMPLES = (
    """
>>> from halfbits.words import is_within, joined, met, settlings
>>> [settlings('0?'), is_within('01', '0?'), joined(['010', '000']), met('0?', '?1')]
[['00', '01'], True, '0?0', '01']
""",
    """
>>> from halfbits.nets import run
>>> net = (2, (('not', 0), ('or', 0, 2)), (3,))
>>> [run(net, '10'), run(net, '?0')]
['1', '?']
""",
)


def answer_of(example):
    """What the last line of an example returns, and what the document says of it."""
    *lines, expected = example.strip().split("\n")
    rows = [line.removeprefix(">>> ") for line in lines]
    names = {}
    for row in rows[:-1]:
        exec(row, names)
    return eval(rows[-1], names), expected


class ExamplesTest(unittest.TestCase):
    def test_examples(self):
        for example in EXAMPLES:
            with self.subTest(example=example):
                answer, expected = answer_of(example)
                self.assertEqual(repr(answer), expected)


if __name__ == "__main__":
    unittest.main()
