"""The hunt for maps from a web into another one, which learns from each place that was left without an image.

What is left for a place is a set in bits. Each time something is taken from it, this is noted down as an event with
its cause; from these it is read off why a place has nothing left. What is learned is a dict from some places to sets:
one of these places at least has an image of its set. It holds for all maps, whatever was tried.
"""

from roundwright.basics import least_of
from roundwright.webpairs import WebPair

# Causes of events: something was tried, a place beside has less left, or something learned.
_TRIED = 0
_AHEAD = 1
_BEHIND = 2
_LEARNED = 3
# After so many dead ends, times 1, 1, 2, 1, 1, 2, 4 .., the hunt begins anew with what it learned.
_PATIENCE = 100
# When so much was learned, and each time so much more, the longer half of it is forgotten.
_MORE_ROOM = 1500
_FINE = 1000000
_MOST_GAIN = 1000000000000000000000000


def _turn(number):
    # The number-th one (from 1) of 1, 1, 2, 1, 1, 2, 4, 1, 1, 2, ..
    while (number + 1) & number:
        number = number - (1 << number.bit_length() - 1) + 1
    return (number + 1) // 2


class MapHunt(WebPair):
    """A web and another one, what is left for each place, the events that led there, and what was learned."""

    def __init__(self, one, other):
        super().__init__(one, other)
        self.held = [self.images] * one.size
        for place in self.looped:
            self.held[place] = self.loops
        self.events = []
        self.of_place = [[] for _ in range(one.size)]
        self.begun = [0]
        self.changed = list(range(one.size))
        self.broken = False
        self.room = _MORE_ROOM
        self.learned = []
        self.lasting = {}
        self.watched = []
        self.watching = [[] for _ in range(one.size)]
        self.weights = [0] * one.size
        self.gain = 1000
        self.hot = []
        self.first_open = 0
        self.liked = [0] * one.size

    def level(self):
        """How many things are tried."""
        return len(self.begun) - 1

    def take(self, place, dropped, kind, cause):
        """Take something from what is left for a place; whether anything is left then."""
        self.of_place[place].append(len(self.events))
        self.events.append((place, dropped, kind, cause, len(self.begun) - 1))
        self.held[place] = self.held[place] & ~dropped
        self.changed.append(place)
        return self.held[place] != 0

    def settle(self):
        """Take all that has no counterpart any more; None, or a place for which nothing is left."""
        at = 0
        while at < len(self.changed):
            place = self.changed[at]
            at += 1
            if self.held[place] == 0:
                return place
            for others, kind, allowed in ((self.behind[place], _AHEAD, self.led(self.held[place])),
                                          (self.ahead[place], _BEHIND, self.leading(self.held[place]))):
                for other in others:
                    dropped = self.held[other] & ~allowed
                    if dropped and not self.take(other, dropped, kind, place):
                        return other
            stuck = self.settle_learned(place)
            if stuck is not None:
                return stuck
        self.changed = []
        return None

    def settle_learned(self, place):
        """Use what was learned where a place has lost all of a set; None, or a place for which nothing is left."""
        held = self.held[place]
        watching = self.watching[place]
        lost = [pair for pair in watching if not held & pair[1]]
        if not lost:
            return None
        kept = [pair for pair in watching if held & pair[1]]
        stuck = None
        for pair in lost:
            number = pair[0]
            sets = self.learned[number]
            other = self.watched[number] - place
            if stuck is None and self.held[other] & ~sets[other]:
                further = self.further_place(sets, place, other)
                if further is not None:
                    self.watching[further].append((number, sets[further]))
                    self.watched[number] = other + further
                    continue
                if not self.take(other, self.held[other] & ~sets[other], _LEARNED, number):
                    stuck = other
            kept.append(pair)
        self.watching[place] = kept
        return stuck

    def further_place(self, sets, place, other):
        """A third place that has something left of its set, None without one."""
        for at in sets:
            if at != place and at != other and self.held[at] & sets[at]:
                return at
        return None

    def back_to(self, level):
        """Give back all that was taken behind so many things tried."""
        if level >= self.level():
            return
        start = self.begun[level + 1]
        for place, dropped, _, _, _ in self.events[start:][::-1]:
            held = self.held[place]
            if held and not held & (held - 1):
                self.liked[place] = held
            self.held[place] = held | dropped
            self.of_place[place].pop()
        del self.events[start:]
        del self.begun[level + 1:]
        self.changed = []
        self.first_open = 0

    def bump(self, place):
        """Note down that a place had part in a dead end."""
        if self.weights[place] == 0:
            self.hot.append(place)
        self.weights[place] += self.gain

    def cool(self):
        """Let what comes later weigh more."""
        self.gain = self.gain * 20 // 19
        if self.gain > _MOST_GAIN:
            self.weights = [weight // _MOST_GAIN + 1 if weight else 0 for weight in self.weights]
            self.gain = 1000

    def require(self, wanted, place, sets):
        """Note down the events that took these things from a place; how many new ones of them are of this level."""
        start = self.begun[-1]
        fresh = 0
        self.bump(place)
        for number in self.of_place[place]:
            # What was taken ahead of all trying is so for all maps.
            part = self.events[number][1] & sets if number >= self.begun[1] else 0
            if part:
                if number not in wanted:
                    wanted[number] = 0
                    if number >= start:
                        fresh += 1
                wanted[number] = wanted[number] | part
        return fresh

    def causes(self, number, part):
        """What had to be taken before an event could take a part: a list of pairs of a place and a set."""
        place, _, kind, cause, _ = self.events[number]
        if kind == _AHEAD:
            return [(cause, self.leading(part))]
        if kind == _BEHIND:
            return [(cause, self.led(part))]
        sets = self.learned[cause]
        return [(at, sets[at]) for at in sets if at != place]

    def reasons(self, stuck):
        """The events, as a dict to the parts wanted of them, of which a dead end came, with one of this level alone."""
        wanted = {}
        fresh = self.require(wanted, stuck, -1)
        number = len(self.events) - 1
        while fresh > 1 or number not in wanted:
            if number in wanted:
                part = wanted[number]
                del wanted[number]
                fresh -= 1
                for place, sets in self.causes(number, part):
                    fresh = fresh + self.require(wanted, place, sets)
            number -= 1
        return wanted, number

    def learn(self, stuck):
        """Learn from a dead end and go back to where this tells something new; None, or a place with nothing left."""
        wanted, last = self.reasons(stuck)
        self.cool()
        place = self.events[last][0]
        sets = {}
        level = 0
        second = None
        for number, part in wanted.items():
            at = self.events[number][0]
            sets[at] = sets.get(at, 0) | part
            if at != place and (second is None or self.events[number][4] > level):
                second = at
                level = self.events[number][4]
        self.back_to(level)
        number = len(self.learned)
        self.learned.append(sets)
        self.watched.append(place if second is None else place + second)
        if second is not None:
            self.watching[place].append((number, sets[place]))
            self.watching[second].append((number, sets[second]))
        if not self.take(place, self.held[place] & ~sets[place], _LEARNED, number):
            return place
        return self.settle()

    def weighty_place(self):
        """A place whose image is open: one that had part in dead ends, with few left; otherwise the first one."""
        best = None
        for place in self.hot:
            held = self.held[place]
            if held & (held - 1):
                rank = self.many(held) * _FINE * _FINE // self.weights[place]
                if best is None or rank < best[0]:
                    best = (rank, place)
        return self.first_place() if best is None else best[1]

    def first_place(self):
        """The first place whose image is open, None if there is none."""
        for place in range(self.first_open, len(self.held)):
            held = self.held[place]
            if held & (held - 1):
                self.first_open = place
                return place
        return None

    def try_image(self, place, image):
        """Try an image, a set of one, for a place; None, or a place for which nothing is left."""
        self.begun.append(len(self.events))
        self.take(place, self.held[place] & ~image, _TRIED, 0)
        return self.settle()

    def try_liked(self, place):
        """Try the image for a place that it had last, or the least one."""
        liked = self.liked[place] & self.held[place]
        return self.try_image(place, liked if liked else 1 << least_of(self.held[place]))

    def assume(self, assumed):
        """Leave for some places only what is in their sets; None, or a place for which nothing is left."""
        self.begun.append(len(self.events))
        for place, sets in assumed:
            dropped = self.held[place] & ~sets
            if dropped and not self.take(place, dropped, _TRIED, 0):
                return place
        return self.settle()

    def forget(self):
        """Forget the longer half of what was learned, if it is much."""
        if len(self.learned) < self.room:
            return
        self.room += _MORE_ROOM
        sizes = sorted([len(sets) for sets in self.learned])
        most = max(2, sizes[len(sizes) // 2])
        kept = [
            number for number, sets in enumerate(self.learned)
            if 1 < len(sets) <= most or number in self.lasting]
        numbers = {number: at for at, number in enumerate(kept)}
        self.learned = [self.learned[number] for number in kept]
        self.watched = [self.watched[number] for number in kept]
        self.lasting = {numbers[number]: True for number in self.lasting}
        self.watching = [
            [(numbers[number], sets) for number, sets in group if number in numbers] for group in self.watching]

    def begin_anew(self, assumed):
        """Begin with these sets assumed for some places; whether each place has something left then."""
        self.back_to(0)
        if self.broken or self.settle() is not None:
            self.broken = True
            return False
        self.forget()
        if self.assume(assumed) is not None:
            self.changed = []
            return False
        return True

    def go_on(self, stuck, assumed):
        """Learn from dead ends until there is none; how many there were, or None if what is assumed cannot be."""
        ends = 0
        while stuck is not None:
            if self.level() <= 1:
                self.broken = self.level() == 0
                self.changed = []
                return None
            stuck = self.learn(stuck)
            ends += 1
            if stuck is None and self.level() == 0:
                stuck = self.assume(assumed)
        return ends

    def found(self, assumed):
        """The sets of a map, each of one place, with images of the sets assumed for some places; None without one."""
        if not self.begin_anew(assumed):
            return None
        left = _PATIENCE
        turn = 1
        while True:
            place = self.weighty_place()
            if place is None:
                return list(self.held)
            ends = self.go_on(self.try_liked(place), assumed)
            if ends is None:
                return None
            left -= ends
            if left < 0:
                turn += 1
                left = _PATIENCE * _turn(turn)
                self.back_to(1)

    def least_found(self, assumed, most, goes_on):
        """The least map likewise, by trying the least image for one place behind the other.

        It begins anew, or goes on with what is tried. The pair of a map (None without one) and of None; or, after more
        dead ends than most, of None and of what is tried: the list of the pairs of places and images.
        """
        if goes_on:
            if self.go_on(self.settle(), assumed) is None:
                return None, None
        elif not self.begin_anew(assumed):
            return None, None
        while True:
            place = self.first_place()
            if place is None:
                return list(self.held), None
            ends = self.go_on(self.try_image(place, 1 << least_of(self.held[place])), assumed)
            if ends is None:
                return None, None
            most -= ends
            if most < 0:
                return None, self.tried()

    def tried(self):
        """The list of the pairs of a place and of the image that is tried for it."""
        places = [self.events[start][0] for start in self.begun[2:]]
        return [(place, self.held[place]) for place in places]

    def leave_this(self, assumed):
        """Learn that another map than the one found is wanted; whether to go on with what is tried, or begin anew."""
        images = {place: self.held[place] for place, _ in assumed}
        for place, image in self.tried():
            images[place] = image
        goes_on = len(images) > 1 and not assumed
        self.back_to(self.level() - 1 if goes_on else 0)
        # What is so for all maps need not be looked at.
        images = {place: image for place, image in images.items() if goes_on or self.held[place] != image}
        number = len(self.learned)
        last = list(images)[-2:]
        self.lasting[number] = True
        self.learned.append({place: self.images & ~image for place, image in images.items()})
        self.watched.append(sum(last))
        if not images:
            self.broken = True
        elif goes_on or len(images) == 1:
            self.take(last[-1], images[last[-1]], _LEARNED, number)
        for place in last if len(images) > 1 else []:
            self.watching[place].append((number, self.learned[number][place]))
        return goes_on
