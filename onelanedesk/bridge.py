"""The bridge with one lane: its ticks, its calls, and what each call answers."""

LEFT = 0
RIGHT = 1

MOST_TURN = 20
MOST_SPANS = 12
MOST_CELLS = 5
MOST_LIMIT = 1000
MOST_WEIGHT = 1000
MOST_TICKS = 1000
MOST_VEHICLES = 60

# Where one is, as the call where tells it.
WAITS = 0
CROSSES = 1
HAS_LEFT = 2
GAVE_UP = 3
SENT_AWAY = 4


class Vehicle:
    """One that came: its cell means something while it is on the bridge, the time when it went once it has gone."""

    def __init__(self, number, side, weight):
        self.number = number
        self.side = side
        self.weight = weight
        self.place = WAITS
        self.cell = 0
        self.went_at = 0

    def twin(self):
        """Another one that is as this one is now."""
        other = Vehicle(self.number, self.side, self.weight)
        other.place = self.place
        other.cell = self.cell
        other.went_at = self.went_at
        return other


class Bridge:
    """The spans, those that came to them, and whose turn it is."""

    def __init__(self):
        self.renew(1, [1], [1])

    def renew(self, turn, cells, limits):
        """Make all new: of each span how many cells and its limit; nobody is there."""
        self.turn = turn
        self.cells = list(cells)
        self.limits = list(limits)
        self.span_of = []
        for span, many in enumerate(cells):
            self.span_of.extend([span] * many)
        self.came = []
        self.waiting = ([], [])
        # Those farthest on stand first: the order in which they entered, for all
        # are from one side. The turn goes over on an empty bridge alone.
        self.crossing = []
        self.open_side = LEFT
        self.entered = 0
        self.is_shut = False
        self.time = 0
        self.most_borne = [0] * len(self.cells)
        self.most_borne_at = [0] * len(self.cells)

    def copied(self):
        """Another bridge that is as this one is now: what happens there changes nothing here."""
        other = Bridge()
        other.renew(self.turn, self.cells, self.limits)
        other.came = [vehicle.twin() for vehicle in self.came]
        for side in (LEFT, RIGHT):
            other.waiting[side].extend([other.came[vehicle.number] for vehicle in self.waiting[side]])
        other.crossing = [other.came[vehicle.number] for vehicle in self.crossing]
        other.open_side = self.open_side
        other.entered = self.entered
        other.is_shut = self.is_shut
        other.time = self.time
        other.most_borne = list(self.most_borne)
        other.most_borne_at = list(self.most_borne_at)
        return other

    def least_limit(self):
        return min(self.limits)

    def how_many_wait(self):
        return len(self.waiting[LEFT]) + len(self.waiting[RIGHT])

    def add_vehicle(self, side, weight):
        """Let one come; answer its number."""
        vehicle = Vehicle(len(self.came), side, weight)
        self.came.append(vehicle)
        self.waiting[side].append(vehicle)
        return vehicle.number

    def put(self, vehicle, place):
        """Keep where one is from now on, and since when: those that have gone are asked for that time."""
        vehicle.place = place
        vehicle.went_at = self.time

    def take_from_waiting(self, vehicle, place):
        self.waiting[vehicle.side].remove(vehicle)
        self.put(vehicle, place)

    def send_heavy_away(self):
        """Send away those that no longer may cross; answer them, in the order in which they came."""
        least = self.least_limit()
        sent = [vehicle for vehicle in self.came if vehicle.place == WAITS and vehicle.weight > least]
        for vehicle in sent:
            self.take_from_waiting(vehicle, SENT_AWAY)
        return sent

    def first_cell(self, side):
        """The cell in which one from this side enters."""
        if side == LEFT:
            return 0
        return len(self.span_of) - 1

    def last_cell(self, side):
        """The cell from which one from this side leaves: where the other side enters."""
        return self.first_cell(1 - side)

    def next_cell(self, vehicle):
        if vehicle.side == LEFT:
            return vehicle.cell + 1
        return vehicle.cell - 1

    def is_free(self, cell, ahead):
        return all([other.cell != cell for other in ahead])

    def can_bear(self, span, weight, ahead):
        """Whether a span bears one more of this weight, besides those ahead that are in it."""
        borne = sum([other.weight for other in ahead if self.span_of[other.cell] == span])
        return borne + weight <= self.limits[span]

    def can_move(self, vehicle, cell, ahead):
        if not self.is_free(cell, ahead):
            return False
        span = self.span_of[cell]
        return span == self.span_of[vehicle.cell] or self.can_bear(span, vehicle.weight, ahead)

    def move_all(self):
        """Move on those on the bridge; answer the numbers of those that left it, in that order."""
        gone = []
        # Each looks at those ahead of it as they are by now: they have moved already.
        ahead = []
        for vehicle in self.crossing:
            if vehicle.cell == self.last_cell(vehicle.side):
                self.put(vehicle, HAS_LEFT)
                gone.append(vehicle.number)
                continue
            cell = self.next_cell(vehicle)
            if self.can_move(vehicle, cell, ahead):
                vehicle.cell = cell
            ahead.append(vehicle)
        self.crossing = ahead
        return gone

    def turn_is_over(self):
        """Whether the side whose turn it is has to give way; it need not while nobody waits at the other one."""
        if not self.waiting[1 - self.open_side]:
            return False
        return not self.waiting[self.open_side] or self.entered >= self.turn

    def change_sides(self):
        self.open_side = 1 - self.open_side
        self.entered = 0

    def let_enter(self):
        """Let the first one enter that waits at the side whose turn it is, if there is one and room for it."""
        if not self.waiting[self.open_side]:
            return
        vehicle = self.waiting[self.open_side][0]
        cell = self.first_cell(self.open_side)
        if not self.is_free(cell, self.crossing):
            return
        if not self.can_bear(self.span_of[cell], vehicle.weight, self.crossing):
            return
        self.take_from_waiting(vehicle, CROSSES)
        vehicle.cell = cell
        self.crossing.append(vehicle)
        self.entered += 1

    def borne(self):
        """What each span bears."""
        weights = [0] * len(self.cells)
        for vehicle in self.crossing:
            weights[self.span_of[vehicle.cell]] += vehicle.weight
        return weights

    def keep_most(self):
        for span, weight in enumerate(self.borne()):
            # Only more than ever before counts: the time is when the most was borne first.
            if weight > self.most_borne[span]:
                self.most_borne[span] = weight
                self.most_borne_at[span] = self.time

    def tick(self):
        """Let one tick go by; answer the numbers of those that left the bridge at it."""
        self.time += 1
        gone = self.move_all()
        if not self.crossing and self.turn_is_over():
            self.change_sides()
        if not self.is_shut and not self.turn_is_over():
            self.let_enter()
        self.keep_most()
        return gone

    def will_leave(self, vehicle):
        """Whether one leaves the bridge if nothing happens but ticks."""
        # One that waits is never too heavy for a span, so it gets over unless the bridge stays shut.
        return vehicle.place == CROSSES or (vehicle.place == WAITS and not self.is_shut)

    def ticks_until_left(self, number):
        """Behind how many ticks from now one has left the bridge, of those that will."""
        foreseen = self.copied()
        vehicle = foreseen.came[number]
        while vehicle.place != HAS_LEFT:
            foreseen.tick()
        return foreseen.time - self.time


def is_within(number, highest):
    return 1 <= number <= highest


def with_row(first, row):
    """An answer that is a number and one list: the list stands behind how many numbers it has."""
    return [first, len(row)] + row


def by_twos(firsts, seconds):
    """A list of twos: the first two numbers, then the next two."""
    row = []
    for first, second in zip(firsts, seconds):
        row.extend([first, second])
    return row


def numbers_of(vehicles):
    return [vehicle.number for vehicle in vehicles]


def are_spans(spans):
    """Whether a list tells of 1 to 12 spans, by two numbers each, how many cells and the limit."""
    if len(spans) % 2 != 0 or not is_within(len(spans) // 2, MOST_SPANS):
        return False
    cells_fit = all([is_within(many, MOST_CELLS) for many in spans[0::2]])
    return cells_fit and all([is_within(bound, MOST_LIMIT) for bound in spans[1::2]])


def begins(bridge, numbers):
    turn = numbers[0]
    # numbers[1] is how long the list is; the list is all that is behind it.
    spans = numbers[2:]
    if not is_within(turn, MOST_TURN) or not are_spans(spans):
        return [-1]
    bridge.renew(turn, spans[0::2], spans[1::2])
    return [len(bridge.span_of)]


def comes(bridge, numbers):
    side = numbers[0]
    weight = numbers[1]
    if side not in (LEFT, RIGHT) or not is_within(weight, MOST_WEIGHT):
        return [-1]
    if len(bridge.came) >= MOST_VEHICLES:
        return [-5]
    if weight > bridge.least_limit():
        return [-6]
    return [bridge.add_vehicle(side, weight)]


def gives(bridge, numbers):
    number = numbers[0]
    if number >= len(bridge.came):
        return [-2]
    vehicle = bridge.came[number]
    if vehicle.place != WAITS:
        return [-4]
    bridge.take_from_waiting(vehicle, GAVE_UP)
    return [bridge.how_many_wait()]


def ticks(bridge, numbers):
    many = numbers[0]
    if not is_within(many, MOST_TICKS):
        return [-1]
    gone = []
    for past in range(many):
        gone.extend(bridge.tick())
    return with_row(bridge.time, gone)


def limit(bridge, numbers):
    span = numbers[0]
    bound = numbers[1]
    if not is_within(bound, MOST_LIMIT):
        return [-1]
    if span >= len(bridge.limits):
        return [-2]
    if bridge.crossing:
        return [-4]
    bridge.limits[span] = bound
    sent = bridge.send_heavy_away()
    return with_row(len(sent), numbers_of(sent))


def shut(bridge, numbers):
    truth = numbers[0]
    if truth not in (0, 1):
        return [-1]
    bridge.is_shut = truth == 1
    return [len(bridge.crossing)]


def where(bridge, numbers):
    number = numbers[0]
    if number >= len(bridge.came):
        return [-2]
    vehicle = bridge.came[number]
    if vehicle.place == WAITS:
        return with_row(WAITS, [bridge.waiting[vehicle.side].index(vehicle)])
    if vehicle.place == CROSSES:
        return with_row(CROSSES, [vehicle.cell])
    return with_row(vehicle.place, [vehicle.went_at])


def when(bridge, numbers):
    number = numbers[0]
    if number >= len(bridge.came):
        return [-2]
    if not bridge.will_leave(bridge.came[number]):
        return [-6]
    return [bridge.ticks_until_left(number)]


def loads(bridge, numbers):
    return with_row(len(bridge.crossing), bridge.borne())


def queue(bridge, numbers):
    side = numbers[0]
    if side not in (LEFT, RIGHT):
        return [-1]
    waiting = bridge.waiting[side]
    return with_row(len(waiting), numbers_of(waiting))


def most(bridge, numbers):
    return with_row(0, by_twos(bridge.most_borne, bridge.most_borne_at))


def state(bridge, numbers):
    turns = [bridge.turn, bridge.open_side, bridge.entered, 1 if bridge.is_shut else 0, len(bridge.came)]
    spans = by_twos(bridge.cells, bridge.limits)
    crossing = by_twos(numbers_of(bridge.crossing), [vehicle.cell for vehicle in bridge.crossing])
    answer = [bridge.time]
    for row in (turns, spans, crossing):
        answer.append(len(row))
        answer.extend(row)
    return answer


BEGINS = 0
# A call's number is its place in both: what answers it, and how many plain numbers it has.
CALLS = (begins, comes, gives, ticks, limit, shut, where, when, loads, queue, most, state)
PLAIN_NUMBERS = (1, 2, 1, 1, 2, 1, 1, 1, 0, 1, 0, 0)


def end_of_call(calls, start):
    """Where the call that stands at a place ends; of all calls begins alone has a list behind its numbers."""
    end = start + 1 + PLAIN_NUMBERS[calls[start]]
    if calls[start] == BEGINS:
        end += 1 + calls[end]
    return end


def answers(calls):
    """Answer each call, one behind another, on one new bridge; each answer stands behind its length."""
    bridge = Bridge()
    given = []
    start = 0
    while start < len(calls):
        end = end_of_call(calls, start)
        answer = CALLS[calls[start]](bridge, calls[start + 1:end])
        given.append(len(answer))
        given.extend(answer)
        start = end
    return given
