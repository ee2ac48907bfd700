"""Point 1, answer for answer."""

import doctest
import unittest

SESSION = """
>>> from countcycles.rules import Rules
>>> from countcycles.follow import model, verdict, walk
>>> both = Rules(2, ("settles", 0, 1), ("within", 0, 1))
>>> both(("settles", 1, 0))
True
>>> verdict(both, ("settles", 1, 0))
('follows', ((1, 0, (1, 0)),))
>>> one = Rules(2, ("settles", 0, 1))
>>> answer = verdict(one, ("settles", 1, 0))
>>> answer[0]
'fails'
>>> answer[1].text()
'0 3\\n1 3\\n2 4\\n'
>>> walk(both, 1, 0)
(1, 0)
>>> model(one) == answer[1]
True
"""


class SessionTest(unittest.TestCase):

    def test_answer_for_answer(self):
        session = doctest.DocTestParser().get_doctest(SESSION, {}, "session", None, 0)
        result = doctest.DocTestRunner().run(session)
        self.assertEqual(result.attempted, 11)
        self.assertEqual(result.failed, 0)


if __name__ == "__main__":
    unittest.main()
