"""Strikers: a head that keeps its stand from deed to deed, and takes deeds back."""

from strikewheel.errors import NoDeed, NoTurns
from strikewheel.least import FIRST_STAND, need_task, plan_from, stand_behind
from strikewheel.plans import is_whole, need_slack, turn_cost
from strikewheel.wheels import need_wheel


class Striker:
    """A wheel with its head, a slack, and the deeds that stand."""

    def __init__(self, wheel, slack):
        need_wheel(wheel)
        need_slack(slack)
        self.wheel = wheel
        self.slack = slack
        # Each deed is kept with the stand and the cost behind it, so that
        # neither has to be counted anew from the first deed on.
        self.deeds = []

    def turn(self, by):
        """Turn the head and return the sign struck."""
        if not is_whole(by) or abs(by) >= len(self.wheel):
            raise NoTurns("a turn goes less than a round")
        self.keep((by,))
        return self.wheel[self.stand()[0]]

    def strike(self, word):
        """Strike a word by the first turns that cost least from here, and return them."""
        need_task(self.wheel, word, self.slack)
        plan = plan_from(self.wheel, word, self.slack, self.stand())
        self.keep(tuple(plan))
        return plan

    def back(self):
        """Take back the last deed that stands, with all its turns."""
        if not self.deeds:
            raise NoDeed("no deed stands that could be taken back")
        self.deeds.pop()

    def stand(self):
        """Return the head's place and way."""
        if not self.deeds:
            return FIRST_STAND
        return self.deeds[-1][2]

    def spent(self):
        """Return the cost of all turns together."""
        if not self.deeds:
            return 0
        return self.deeds[-1][3]

    def text(self):
        """Return all signs struck."""
        return "".join([signs for turns, signs, stand, spent in self.deeds])

    def turns(self):
        """Return all turns of the deeds that stand."""
        return [turn for turns, signs, stand, spent in self.deeds for turn in turns]

    def keep(self, turns):
        """Put down a deed of such turns behind those that stand."""
        stand = self.stand()
        spent = self.spent()
        signs = []
        for turn in turns:
            spent += turn_cost(stand[1], turn, self.slack)
            stand = stand_behind(self.wheel, stand, turn)
            signs.append(self.wheel[stand[0]])
        self.deeds.append((turns, "".join(signs), stand, spent))
