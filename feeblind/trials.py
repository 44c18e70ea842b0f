"""Trials: blocks behind which a house is as it was, unless they are kept."""


class Trial:
    """A context manager for a house, which is used as ever within the block."""

    def __init__(self, house):
        self.house = house
        self.state = None
        self.held = None
        self.target = house

    def keep(self):
        """Leaves the house as it will be at the end of the block."""
        # What is held is then put back into the trial itself, where it means nothing.
        self.target = self

    def __enter__(self):
        self.held = self.house.state
        self.target = self.house
        return self

    def __exit__(self, kind, value, trace):
        target = self.target
        target.state = self.held


def held_text(house, edits, keep):
    """The text of the chart behind a trial with a list of edits, which is kept if keep is True."""
    with Trial(house) as held:
        house.do(*edits)
        if keep:
            held.keep()
    return house.chart_now().text()


def text_behind(house, *edits):
    """The text that the chart would have behind some edits; the house stays as it is."""
    with Trial(house):
        house.do(*edits)
        return house.chart_now().text()
