"""The echo: a row of floats for each side, through which the side goes."""

from voicesounds.floats import held, plus, times


# Without numbers in its rows there is no echo.
class Echo:
    def __init__(self, length, feed, heard):
        self.left_row = [0] * length
        self.right_row = [0] * length
        self.feed = feed
        self.heard = heard
        # Where the first of both rows stands: it goes round, so that no row is moved sample by sample.
        self.place = 0


def side_echoed(echo, row, x):
    first = row[echo.place]
    # The place of the first is that behind the last once the first has gone.
    row[echo.place] = held(plus(x, times(echo.feed, first)))
    return plus(x, times(echo.heard, first))


def echoed(echo, left, right):
    length = len(echo.left_row)
    if length == 0:
        return (left, right)
    told_left = side_echoed(echo, echo.left_row, left)
    told_right = side_echoed(echo, echo.right_row, right)
    echo.place = (echo.place + 1) % length
    return (told_left, told_right)
