"""The box: how many places its cams have, the cams, and the motion wished."""

from cambox.plans import best_of, cams_on, gaps_of, motion_of, off_at_worst, off_in_all, plans_with_gaps

WRONG = -1
FULL = -5

FIRST_PLACES = 2
FEWEST_PLACES = 2
MOST_PLACES = 8
MOST_CAMS = 4
HIGHEST_OF_CAM = 100
HIGHEST_WISHED = 400


def is_row(numbers, length, highest):
    """Tell whether there are so many numbers, and none above the highest."""
    if len(numbers) != length:
        return False
    for number in numbers:
        if number > highest:
            return False
    return True


class Box:
    """One box. Each call gives the list of the numbers it answers."""

    def __init__(self):
        self.places = FIRST_PLACES
        self.cams = []
        self.wished = [0] * FIRST_PLACES

    def begins(self, places):
        """Empty the box for cams of so many places."""
        if places < FEWEST_PLACES or places > MOST_PLACES:
            return [WRONG]
        self.places = places
        self.cams = []
        self.wished = [0] * places
        return [0]

    def cam(self, heights):
        """Put in one cam more, and answer its number."""
        # The document tells the wrong list first, so a full box is asked for last.
        if not is_row(heights, self.places, HIGHEST_OF_CAM):
            return [WRONG]
        if len(self.cams) == MOST_CAMS:
            return [FULL]
        self.cams.append(heights)
        return [len(self.cams) - 1]

    def wish(self, heights):
        """Keep the motion that is wished from now on."""
        if not is_row(heights, self.places, HIGHEST_WISHED):
            return [WRONG]
        self.wished = heights
        return [0]

    def sum_of(self, plan):
        """Tell how far the motion of a plan is off, in all and at the worst, and the motion."""
        if not is_row(plan, len(self.cams), self.places):
            return [WRONG]
        motion = motion_of(plan, self.cams, self.places)
        gaps = gaps_of(motion, self.wished)
        return [off_in_all(gaps), off_at_worst(gaps)] + motion

    def nearest(self):
        """Tell of the plan that is the least off in all."""
        plans = plans_with_gaps(self.cams, self.wished)
        return best_of([(off_in_all(gaps), cams_on(plan, self.places), plan) for plan, gaps in plans])

    def evenest(self):
        """Tell of the plan that is the least off at the worst."""
        plans = plans_with_gaps(self.cams, self.wished)
        return best_of([(off_at_worst(gaps), cams_on(plan, self.places), plan) for plan, gaps in plans])
