"""The desk: takes a list of calls about places and readings, and answers each."""

START = 0
KNOWN = 1
READ = 2
DROP = 3
BEST = 4
NTH = 5
SIDES = 6
TIE = 7
PLACED = 8
BLOCKS = 9
THROWN = 10
COST = 11
SHOWS = 12

PLACES_AT_FIRST = 2
MOST_PLACES = 6
MOST_READINGS = 10
HIGHEST_LETTER = 1
HIGHEST_PRICE = 99
NUMBERS_IN_A_MARK = 3

BOTH_0 = 0
BOTH_1 = 1
ONE_OF_EACH = 2
NOTHING = 3

NOT_AS_TOLD = -1
NOT_THERE = -3
FULL = -5


class Tape:
    """The list of calls, and how far it has been taken."""

    def __init__(self, calls):
        self.numbers = calls
        self.at = 0

    def ended(self):
        return self.at >= len(self.numbers)

    def take(self):
        number = self.numbers[self.at]
        self.at = self.at + 1
        return number

    def take_row(self):
        length = self.take()
        row = self.numbers[self.at:self.at + length]
        self.at = self.at + length
        return row


class Mark:
    """What was read at a place, and the price if the strand has another letter there."""

    def __init__(self, place, letter, price):
        self.place = place
        self.letter = letter
        self.price = price


class Reading:
    """Marks of one strand or the other, under a number that is used once."""

    def __init__(self, number, marks):
        self.number = number
        self.marks = marks


class Pair:
    """Two strands, the one that comes first the first, what each reading costs with them, and all together."""

    def __init__(self, first, second, costs):
        self.first = first
        self.second = second
        self.costs = costs
        self.cost = sum(costs)


class Session:
    """What is known of each place, and the readings by rising number."""

    def __init__(self):
        self.begin(PLACES_AT_FIRST)

    def begin(self, places):
        self.facts = [NOTHING] * places
        self.readings = []
        self.next_number = 1

    def has_place(self, place):
        return place < len(self.facts)


def answers(calls):
    """For each call, in order: how many numbers are answered, then these."""
    tape = Tape(calls)
    session = Session()
    given = []
    while not tape.ended():
        numbers = answer_call(session, tape)
        given.append(len(numbers))
        given.extend(numbers)
    return given


def answer_call(session, tape):
    call = tape.take()
    if call == START:
        return answer_start(session, tape.take())
    if call == KNOWN:
        place = tape.take()
        fact = tape.take()
        return answer_known(session, place, fact)
    if call == READ:
        return answer_read(session, tape.take_row())
    if call == DROP:
        return answer_drop(session, tape.take())
    return answer_question(session, call, tape)


def answer_question(session, call, tape):
    """Of the calls that change nothing."""
    if call == BEST:
        return answer_best(session)
    if call == NTH:
        return answer_nth(session, tape.take())
    if call == SIDES:
        return answer_sides(session)
    if call == TIE:
        place = tape.take()
        other = tape.take()
        return answer_tie(session, place, other)
    if call == PLACED:
        return answer_placed(session, tape.take())
    if call == BLOCKS:
        return answer_blocks(session)
    if call == THROWN:
        return answer_thrown(session)
    if call == COST:
        strand = tape.take_row()
        other = tape.take_row()
        return answer_cost(session, strand, other)
    if call == SHOWS:
        return answer_shows(session)
    raise KeyError(call)


def answer_start(session, places):
    if places < 1 or places > MOST_PLACES:
        return [NOT_AS_TOLD]
    session.begin(places)
    return [places]


def answer_known(session, place, fact):
    if not session.has_place(place) or fact > NOTHING:
        return [NOT_AS_TOLD]
    session.facts[place] = fact
    return [fact]


def answer_read(session, numbers):
    marks = marks_of(numbers)
    # Marks are looked at ahead of the room: of two refusals the one told first is answered.
    if not marks_are_as_told(session, marks):
        return [NOT_AS_TOLD]
    if len(session.readings) >= MOST_READINGS:
        return [FULL]
    reading = Reading(session.next_number, marks)
    session.readings.append(reading)
    session.next_number = session.next_number + 1
    return [reading.number]


def marks_of(numbers):
    return [Mark(numbers[k], numbers[k + 1], numbers[k + 2]) for k in range(0, len(numbers), NUMBERS_IN_A_MARK)]


def marks_are_as_told(session, marks):
    if len(marks) == 0:
        return False
    if len(set([mark.place for mark in marks])) < len(marks):
        return False
    return all([mark_is_as_told(session, mark) for mark in marks])


def mark_is_as_told(session, mark):
    if not session.has_place(mark.place):
        return False
    if mark.letter > HIGHEST_LETTER:
        return False
    return mark.price >= 1 and mark.price <= HIGHEST_PRICE


def answer_drop(session, number):
    left = [reading for reading in session.readings if reading.number != number]
    if len(left) == len(session.readings):
        return [NOT_THERE]
    session.readings = left
    return [len(left)]


def answer_best(session):
    pairs = best_pairs(session)
    return [pairs[0].cost, len(pairs)] + letters_of(pairs[0])


def answer_nth(session, which):
    pairs = best_pairs(session)
    if which >= len(pairs):
        return [NOT_THERE]
    return letters_of(pairs[which])


def answer_sides(session):
    pair = best_pairs(session)[0]
    given = [len(session.readings)]
    for reading in session.readings:
        with_first = reading_cost(reading, pair.first)
        with_second = reading_cost(reading, pair.second)
        side = 1 if with_second < with_first else 0
        given.extend([reading.number, side, min(with_first, with_second)])
    return given


def answer_tie(session, place, other):
    if not session.has_place(place) or not session.has_place(other) or place == other:
        return [NOT_AS_TOLD]
    pairs = pairs_with(pairs_with(pairs_that_may_be(session), place, ONE_OF_EACH), other, ONE_OF_EACH)
    # The strands differ at both places: where one of them has the same letter at both, so has the other.
    same = [pair for pair in pairs if pair.first[place] == pair.first[other]]
    crossed = [pair for pair in pairs if pair.first[place] != pair.first[other]]
    return least_cost_if_any(same) + least_cost_if_any(crossed)


def answer_placed(session, place):
    if not session.has_place(place):
        return [NOT_AS_TOLD]
    pairs = pairs_that_may_be(session)
    given = []
    for fact in (BOTH_0, BOTH_1, ONE_OF_EACH):
        given.extend(least_cost_if_any(pairs_with(pairs, place, fact)))
    return given


def answer_blocks(session):
    least_tied = least_tied_places(session)
    # A place is the least one of a block just if no lesser one is tied to it.
    leaders = [place for place in range(len(least_tied)) if least_tied[place] == place]
    given = [len(leaders)]
    for leader in leaders:
        block = [place for place in range(len(least_tied)) if least_tied[place] == leader]
        given.append(len(block))
        given.extend(block)
    return given


def answer_thrown(session):
    # For a pair to cost nothing, just the readings that cost something with it must go: so each pair is one choice.
    choices = [numbers_that_cost(session.readings, pair) for pair in pairs_that_may_be(session)]
    fewest = min([len(numbers) for numbers in choices])
    return [fewest] + min([numbers for numbers in choices if len(numbers) == fewest])


def answer_cost(session, strand, other):
    if not strand_is_as_told(session, strand) or not strand_is_as_told(session, other):
        return [NOT_AS_TOLD]
    return [sum(lesser_costs(costs_with(session.readings, strand), costs_with(session.readings, other)))]


def answer_shows(session):
    given = session.facts + [len(session.readings)]
    for reading in session.readings:
        given.extend([reading.number, len(reading.marks)])
        for mark in reading.marks:
            given.extend([mark.place, mark.letter, mark.price])
    return given


def letters_of(pair):
    return pair.first + pair.second


def strand_is_as_told(session, strand):
    return len(strand) == len(session.facts) and all([letter <= HIGHEST_LETTER for letter in strand])


def least_tied_places(session):
    """Of each place the least place of its block."""
    least_tied = list(range(len(session.facts)))
    for reading in session.readings:
        met = [least_tied[mark.place] for mark in reading.marks]
        least = min(met)
        # Whole blocks become one, with places too that this reading doesn't mark.
        least_tied = [least if leader in met else leader for leader in least_tied]
    return least_tied


def numbers_that_cost(readings, pair):
    return [reading.number for reading, cost in zip(readings, pair.costs) if cost > 0]


def least_cost_if_any(pairs):
    if len(pairs) == 0:
        return [0]
    return [1, least_cost(pairs)]


def least_cost(pairs):
    return min([pair.cost for pair in pairs])


def pairs_with(pairs, place, fact):
    """Those of the pairs that are at that place as the fact says."""
    return [pair for pair in pairs if letters_fit(fact, pair.first[place], pair.second[place])]


def best_pairs(session):
    """The pairs that cost the least, in order; what is known always leaves at least one."""
    pairs = pairs_that_may_be(session)
    least = least_cost(pairs)
    return [pair for pair in pairs if pair.cost == least]


def pairs_that_may_be(session):
    """Every pair as it may be by what is known, in order."""
    strands = strands_in_order(len(session.facts))
    # A strand is in many pairs: what each reading costs with it is reckoned once.
    costs = [costs_with(session.readings, strand) for strand in strands]
    pairs = []
    for i in range(len(strands)):
        for j in range(i, len(strands)):
            if may_be(session.facts, strands[i], strands[j]):
                pairs.append(Pair(strands[i], strands[j], lesser_costs(costs[i], costs[j])))
    return pairs


def strands_in_order(places):
    strands = [[]]
    while len(strands[0]) < places:
        longer = []
        for strand in strands:
            longer.append(strand + [0])
            longer.append(strand + [1])
        strands = longer
    return strands


def may_be(facts, first, second):
    return all([letters_fit(facts[k], first[k], second[k]) for k in range(len(facts))])


def letters_fit(fact, first, second):
    if fact == NOTHING:
        return True
    if fact == ONE_OF_EACH:
        return first != second
    return first == fact and second == fact


def costs_with(readings, strand):
    return [reading_cost(reading, strand) for reading in readings]


def reading_cost(reading, strand):
    return sum([mark.price for mark in reading.marks if strand[mark.place] != mark.letter])


def lesser_costs(first_costs, second_costs):
    return [min(first, second) for first, second in zip(first_costs, second_costs)]
