"""Plans: what motion they give, how far it is off, and which plan is best."""


def turned(heights, by):
    """Give a cam's heights when it is turned by so many places."""
    return heights[by:] + heights[:by]


def together(heights, others):
    """Give at each place what both have there together."""
    return [one + other for one, other in zip(heights, others)]


def motion_of(plan, cams, places):
    """Give the motion of a plan."""
    motion = [0] * places
    for cam, by in zip(cams, plan):
        # The number of places stands for a cam that stays in the box.
        if by != places:
            motion = together(motion, turned(cam, by))
    return motion


def gaps_of(motion, wished):
    """Give by how much a motion is higher than wished at each place: below 0 where it is lower."""
    return [height - aim for height, aim in zip(motion, wished)]


def off_in_all(gaps):
    """Give how much all places together are off."""
    return sum([abs(gap) for gap in gaps])


def off_at_worst(gaps):
    """Give how much the worst place is off."""
    return max([abs(gap) for gap in gaps])


def cams_on(plan, places):
    """Give how many cams a plan has that don't stay in the box."""
    return len(plan) - plan.count(places)


def with_one_more(plans, cam):
    """Give the plans, with their gaps, that come of these when one cam more is in the box."""
    places = len(cam)
    each_turn = [turned(cam, by) for by in range(places)]
    longer = []
    for plan, gaps in plans:
        for by, heights in enumerate(each_turn):
            longer.append((plan + [by], together(gaps, heights)))
        longer.append((plan + [places], gaps))
    return longer


def plans_with_gaps(cams, wished):
    """Give every plan of the cams, each with the gaps of its motion."""
    # Plans that begin alike share the sum of their first cams: there are up to 6561 of them.
    plans = [([], gaps_of([0] * len(wished), wished))]
    for cam in cams:
        plans = with_one_more(plans, cam)
    return plans


def best_of(rated):
    """Give what is told of the best plan; each is rated as how much it is off, its cams, itself."""
    # Tuples and lists are compared from the front, so of several as good the least is the earliest.
    best = min(rated)
    as_good = [each for each in rated if each[:2] == best[:2]]
    return [best[0], best[1], len(as_good)] + best[2]
