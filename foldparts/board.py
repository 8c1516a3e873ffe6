"""Boards: where the pieces of one row are put together."""

from foldparts.checks import copied, is_integer
from foldparts.errors import BadPlaces, Disputed, Missing, Overlap, UnknownPiece


class Board:
    """A board for the pieces of a row with a number of places."""

    def __init__(self, scheme, places):
        self.scheme = scheme
        self.places = places
        # The tuples (start, end) of the pieces, ascending, and a dict from each of them to its numbers.
        self._stretches = []
        self._numbers = {}

    def put(self, start, end, numbers):
        """Put a piece on the board.

        Raise BadPlaces(start, end), WrongCount(size), Disputed(start, end) if there is a piece with other numbers on
        the same places, and Overlap(start, end) of the first piece with some of the places.
        """
        self._check_places(start, end)
        if start == end:
            raise BadPlaces(start, end)
        self.scheme.check_count(numbers)
        if (start, end) in self._numbers:
            if self._numbers[(start, end)] != tuple(numbers):
                raise Disputed(start, end)
            return
        crossed = self._stretches_in(start, end)
        if crossed != []:
            first, last = crossed[0]
            raise Overlap(first, last)
        self._stretches.insert(self._count_before(start), (start, end))
        self._numbers[(start, end)] = tuple(numbers)

    def withdraw(self, start, end):
        """Take the piece on these places off the board and return its numbers. Raise UnknownPiece(start, end)."""
        self._check_piece(start, end)
        numbers = self._numbers[(start, end)]
        del self._stretches[self._count_before(start)]
        del self._numbers[(start, end)]
        return numbers

    def settle(self, start, items):
        """Give the piece that begins at start the numbers of its items. Return True if it had other ones before.

        Raise BadItem(index), and UnknownPiece(start, end) if there is no piece on as many places.
        """
        numbers = self.scheme.numbers(items)
        end = start + len(items)
        self._check_piece(start, end)
        changed = self._numbers[(start, end)] != numbers
        self._numbers[(start, end)] = numbers
        return changed

    def pieces(self):
        """Yield the tuples (start, end) of all pieces, ascending, as they are at the first step."""
        stretches = list(self._stretches)
        for stretch in stretches:
            yield stretch

    def gaps(self):
        """Return the list of the tuples (start, end) of the places without a piece, ascending."""
        return self._gaps_in(0, self.places)

    def numbers_of(self, start, end):
        """Return the joined numbers of the pieces on these places.

        Raise BadPlaces(start, end), Missing(places) with the gaps between start and end, and Overlap(start, end) of
        the first piece that is only partly between them.
        """
        self._check_places(start, end)
        gaps = self._gaps_in(start, end)
        if gaps != []:
            raise Missing(gaps)
        stretches = self._stretches_in(start, end)
        for first, last in stretches:
            if first < start or last > end:
                raise Overlap(first, last)
        numbers = self.scheme.numbers([])
        for stretch in stretches:
            numbers = self.scheme.joined(numbers, self._numbers[stretch])
        return numbers

    def result(self):
        """Return the result. Raise Missing(places) with all gaps if there are any."""
        return self.scheme.outcome(self.numbers_of(0, self.places))

    def _check_places(self, start, end):
        """Raise BadPlaces(start, end) unless these are integers with 0 <= start <= end <= places."""
        if not is_integer(start) or not is_integer(end) or not 0 <= start <= end <= self.places:
            raise BadPlaces(copied(start), copied(end))

    def _check_piece(self, start, end):
        """Raise UnknownPiece(start, end) unless there is a piece on just these places."""
        if (start, end) not in self._numbers:
            raise UnknownPiece(start, end)

    def _count_before(self, place):
        """Return how many pieces end at the place or before it."""
        low, high = 0, len(self._stretches)
        while low < high:
            middle = (low + high) // 2
            if self._stretches[middle][1] <= place:
                low = middle + 1
            else:
                high = middle
        return low

    def _stretches_in(self, start, end):
        """Return the list of the stretches, ascending, that have a place in common with that from start to end."""
        found = []
        at = self._count_before(start)
        while start < end and at < len(self._stretches) and self._stretches[at][0] < end:
            found.append(self._stretches[at])
            at = at + 1
        return found

    def _gaps_in(self, start, end):
        """Return the list of the tuples (start, end) of the places between start and end without a piece, ascending."""
        gaps = []
        place = start
        for first, last in self._stretches_in(start, end):
            if place < first:
                gaps.append((place, first))
            place = last
        if place < end:
            gaps.append((place, end))
        return gaps
