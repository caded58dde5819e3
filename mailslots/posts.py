"""What comes of many letters, in turn."""

from mailslots.checks import check_town, is_whole
from mailslots.errors import BadLetter, BadTime
from mailslots.ways import way

MOST_LETTERS = 60
LAST_POST_DAY = 1000000


class Post:
    """The letters of one town, on a day that moves on."""

    def __init__(self, town):
        check_town(town)
        # A town is made of tuples alone, so that nobody can change it later.
        self._town = town
        self._day = 0
        self._letters = 0
        self._not_told = []

    def put(self, letter):
        """Bring the letter, on its day; tell its number."""
        stops, _, back = way(self._town, letter)
        day, _ = stops[0]
        if day < self._day:
            raise BadLetter("the letter's day is over")
        if self._letters == MOST_LETTERS:
            raise BadLetter("there are sixty letters already")
        number = self._letters
        day, office = stops[-1] if back is None else back
        word = "given" if back is None else "back"
        self._not_told.append((day, number, office, word))
        self._letters += 1
        return number

    def pass_to(self, day):
        """Let days pass up to this one; tell what is over by then and wasn't told ahead."""
        if not is_whole(day, self._day, LAST_POST_DAY):
            raise BadTime("there is no such day to pass to")
        self._day = day
        over = sorted([row for row in self._not_told if row[0] <= day])
        self._not_told = [row for row in self._not_told if row[0] > day]
        return over

    def under_way(self):
        """Tell the numbers of all letters that pass_to didn't tell, rising."""
        return [number for _, number, _, _ in self._not_told]

    def time(self):
        """Tell the post's day."""
        return self._day
