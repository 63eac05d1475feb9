"""How much room is taken when all values of the unknown are looked at at once."""

MOST_SEGMENTS = 50000
MOST_WAYS = 1000


class Crowded(Exception):
    """What is reckoned for an interval has too many parts: it is to be cut behind the number told."""

    def __init__(self, at):
        super().__init__(f"crowded: {at}")
        self.at = at
