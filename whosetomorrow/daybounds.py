"""Day bounds: how far facts let days be from one another."""

from whosetomorrow.dayposts import ZERO, find_date_clash, find_weekday_clash, legs_of, lowered, told_rests


def summed_rows(rows):
    """Return a table of bounds in which no bound is above the sum of two others; None is no bound."""
    count = len(rows)
    least = [list(row) for row in rows]
    for via in range(count):
        through = list(least[via])
        for start in range(count):
            first = least[start][via]
            if first is None:
                continue
            for end in range(count):
                second = through[end]
                if second is not None and (least[start][end] is None or first + second < least[start][end]):
                    least[start][end] = first + second
    return least


class Bounds:
    """How far each of some posts is behind each other one at the most, all bounds summed."""

    def __init__(self, posts, rows):
        self.posts = posts
        self.order = {post: at for at, post in enumerate(posts)}
        self.least = summed_rows(rows)

    def bound(self, one, other):
        """Return how far a post is behind another one at the most, None if it is not bounded."""
        if one == other:
            return 0
        if one not in self.order or other not in self.order:
            return None
        return self.least[self.order[one]][self.order[other]]

    def clashes(self):
        """Tell whether some post lies below itself."""
        return any([row[at] is not None and row[at] < 0 for at, row in enumerate(self.least)])


def summed_legs(posts, legs):
    """Return the bounds between posts that legs tell."""
    order = {post: at for at, post in enumerate(posts)}
    rows = [[None] * len(posts) for _ in posts]
    for begin, end, worth, leg in legs:
        row = rows[order[begin]]
        at = order[end]
        if row[at] is None or worth < row[at]:
            row[at] = worth
    return Bounds(posts, rows)


def posts_of(legs):
    """Return the posts that legs lead between, each once."""
    posts = {}
    for begin, end, worth, leg in legs:
        posts[begin] = True
        posts[end] = True
    return list(posts)


def settle_day(bounds, days, post, rest):
    """Return a day for a post that suits the days of other posts under summed bounds, its rest if none is bound."""
    lows = []
    highs = []
    for other in days:
        ahead = bounds.bound(post, other)
        behind = bounds.bound(other, post)
        if ahead is not None:
            lows.append(days[other] - ahead)
        if behind is not None:
            highs.append(days[other] + behind)
    if lows:
        return max(lows)
    return min(highs) if highs else rest


class DayBounds:
    """All that facts tell of days.

    Bounds between posts of known rest are lowered to the nearest number of the
    right remainder; a post whose rest is not known is bounded exactly by those.
    So each question is put with the rests of its posts told, one after the other.
    """

    def __init__(self, rows):
        legs = legs_of(rows)
        self.rests = told_rests(rows)
        self.bounds = summed_legs(posts_of(legs), legs)
        self.told_cases = {}

    def known_bounds(self, rests):
        """Return the bounds between the posts of these rests, None if the days clash."""
        posts = list(rests)
        rows = []
        for begin in posts:
            row = []
            for end in posts:
                most = self.bounds.bound(begin, end)
                row.append(None if most is None else lowered(most, rests[end] - rests[begin]))
            rows.append(row)
        bounds = Bounds(posts, rows)
        return None if bounds.clashes() else bounds

    def clashes(self):
        """Tell whether no days meet all bounds."""
        return self.bounds.clashes() or self.known_bounds(self.rests) is None

    def rests_with(self, one, other, one_rest, other_rest):
        """Return the known rests and those of two posts more, None if they are unlike what is known."""
        rests = {post: self.rests[post] for post in self.rests}
        if rests.setdefault(one, one_rest) != one_rest or rests.setdefault(other, other_rest) != other_rest:
            return None
        return rests

    def told_range(self, one, other, one_rest, other_rest):
        """Return the least and the greatest of post other minus post one if they have these rests, or None."""
        rests = self.rests_with(one, other, one_rest, other_rest)
        bounds = None if rests is None else self.known_bounds(rests)
        if bounds is None:
            return None
        back = bounds.bound(other, one)
        return (None if back is None else -back, bounds.bound(one, other))

    def cases(self, one, other):
        """Return (rest, other rest, low, high) for all rests that two posts have together in some fit."""
        if (one, other) not in self.told_cases:
            found = []
            for one_rest in range(7):
                for other_rest in range(7):
                    told = self.told_range(one, other, one_rest, other_rest)
                    if told is not None:
                        found.append((one_rest, other_rest) + told)
            self.told_cases[(one, other)] = found
        return self.told_cases[(one, other)]

    def days_with(self, one, other, one_rest, other_rest, apart):
        """Return days of all posts that meet the facts, with these rests of two posts so far apart."""
        rests = self.rests_with(one, other, one_rest, other_rest)
        known = self.known_bounds(rests)
        days = {one: one_rest}
        days[other] = one_rest + apart
        for post in rests:
            if post not in days:
                days[post] = settle_day(known, days, post, rests[post])
        for post in self.bounds.posts:
            if post not in days:
                days[post] = settle_day(self.bounds, days, post, 0)
        # The rest of date 0 is known, so all days are off by whole weeks at the most.
        off = days[ZERO]
        return {post: days[post] - off for post in days}


def days_clash(rows):
    """Tell whether what facts say of days has no fit."""
    if find_date_clash(rows) is not None or find_weekday_clash(rows) is not None:
        return True
    return DayBounds(rows).clashes()
