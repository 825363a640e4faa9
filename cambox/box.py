"""The box: how many places its cams have, the cams, and the motion wished."""

WRONG = -1
FULL = -5

FIRST_PLACES = 2
FEWEST_PLACES = 2
MOST_PLACES = 8
MOST_CAMS = 4
HIGHEST_OF_CAM = 100
HIGHEST_WISHED = 400


def is_motion(heights, places, highest):
    """Tell whether there is a height for each place, and none above the highest."""
    if len(heights) != places:
        return False
    for height in heights:
        if height > highest:
            return False
    return True


class Box:
    """One box. Each call gives the list of the numbers it answers."""

    def __init__(self):
        self.places = FIRST_PLACES
        self.cams = []
        self.wished = [0] * FIRST_PLACES

    def begins(self, places):
        """Empty the box for cams of so many places."""
        if places < FEWEST_PLACES or places > MOST_PLACES:
            return [WRONG]
        self.places = places
        self.cams = []
        self.wished = [0] * places
        return [0]

    def cam(self, heights):
        """Put in one cam more, and answer its number."""
        # The document tells the wrong list first, so a full box is asked for last.
        if not is_motion(heights, self.places, HIGHEST_OF_CAM):
            return [WRONG]
        if len(self.cams) == MOST_CAMS:
            return [FULL]
        self.cams.append(heights)
        return [len(self.cams) - 1]

    def wish(self, heights):
        """Keep the motion that is wished from now on."""
        if not is_motion(heights, self.places, HIGHEST_WISHED):
            return [WRONG]
        self.wished = heights
        return [0]
