"""Learners: folds that are found by asking for values."""

from foldparts.errors import NoFold, NoObjection
from foldparts.frames import Frame
from foldparts.inquiries import Inquiry, told_by
from foldparts.narrow import narrow_fold


class Learner:
    """A learner, which asks a teacher for values of rows with the test items of a pattern."""

    def __init__(self, teacher, pattern, most):
        self._most = most
        self._inquiry = Inquiry(teacher, pattern, {}, [()], [])
        self._walk = self._inquiry.made_walk()
        self._guess = narrow_fold(Frame(self._walk))

    def guess(self):
        """Return the fold that has the teacher's values for all rows that were asked."""
        return self._guess

    def asked(self):
        """Return the list of the rows that were asked, in order."""
        return self._inquiry.asked_rows()

    def object(self, row):
        """Object a row of test items for which the guess has another value than the teacher.

        Raise NoObjection() if it has the same value, and NoFold() if the guess would need too many registers.
        """
        inquiry = self._inquiry.branch()
        walk = self._walk
        wrong = inquiry.row_numbers(row)
        if inquiry.answer(wrong) == told_by(walk, wrong):
            raise NoObjection()
        # The answers that a longer guess takes can show that it is wrong for other rows that were asked.
        while wrong is not None:
            if len(inquiry.tails) == self._most:
                raise NoFold()
            inquiry.widen(walk, wrong)
            walk = inquiry.made_walk()
            wrong = inquiry.wrong_row(walk)
        self._inquiry = inquiry
        self._walk = walk
        self._guess = narrow_fold(Frame(walk))
