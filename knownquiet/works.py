"""Works: the rules by which tasks bring tasks, and the standings that come of them."""

from knownquiet.errors import BadWorks, NoGiven, NoHouse, NoStanding, NoTask, NothingThere, TooMany
from knownquiet.forms import is_below, is_tuple_of, with_item
from knownquiet.ways import are_full_ways, by_pairs, send, ways_of

MOST_HOUSES = 6
MOST_KINDS = 6
MOST_PAIRS = 4
MOST_FUEL = 12
MOST_GIVEN = 20
MOST_DONE = 20000


class Works:
    """Many houses, and for each kind of tasks the rule by which its tasks send others."""

    def __init__(self, many, rules):
        if not is_below(MOST_HOUSES + 1, many) or many == 0:
            raise BadWorks("many")
        if not isinstance(rules, tuple) or len(rules) == 0 or len(rules) > MOST_KINDS:
            raise BadWorks(-1)
        for number, rule in enumerate(rules):
            if not is_rule(many, len(rules), rule):
                raise BadWorks(number)
        self.many = many
        self.rules = rules

    def __eq__(self, other):
        return isinstance(other, Works) and self.many == other.many and self.rules == other.rules


def is_rule(many, kinds, thing):
    """Whether a thing is a rule of works of so many houses and so many kinds."""
    if not isinstance(thing, tuple) or len(thing) > MOST_PAIRS:
        return False
    return all([is_rule_pair(many, kinds, pair) for pair in thing])


def is_rule_pair(many, kinds, thing):
    """Whether a thing is a pair of a step and a kind."""
    return is_tuple_of(2, thing) and is_below(many, thing[0]) and is_below(kinds, thing[1])


def is_house(works, thing):
    """Whether a thing is the number of a house."""
    return is_below(works.many, thing)


def is_task(works, thing):
    """Whether a thing is a pair of a kind and a fuel."""
    return is_tuple_of(2, thing) and is_below(len(works.rules), thing[0]) and is_below(MOST_FUEL + 1, thing[1])


def are_tasks(works, thing):
    """Whether a thing is a tuple of tasks, perhaps of none."""
    return isinstance(thing, tuple) and all([is_task(works, item) for item in thing])


def is_given(works, thing):
    """Whether a thing is a tuple of tasks that can be given to house 0."""
    return are_tasks(works, thing) and len(thing) <= MOST_GIVEN


def check_house(works, house):
    """Raise NoHouse for what is no house."""
    if not is_house(works, house):
        raise NoHouse()


def check_task(works, task):
    """Raise NoTask for what is no task."""
    if not is_task(works, task):
        raise NoTask()


def check_given(works, given):
    """Raise NoGiven for what is no tuple of tasks that can be given."""
    if not is_given(works, given):
        raise NoGiven()


def check_standing(works, standing):
    """Raise NoStanding for what is no standing."""
    if not is_standing(works, standing):
        raise NoStanding()


def sent_by(works, house, task):
    """Tell the pairs (to, task) that a house sends when it does a task, in order."""
    check_house(works, house)
    check_task(works, task)
    kind, fuel = task
    if fuel == 0:
        return ()
    return tuple([((house + step) % works.many, (sent, fuel - 1)) for step, sent in works.rules[kind]])


def tasks_of(works, house, task):
    """Tell for each house how many tasks it does if a house does this one, and all that come of it."""
    check_house(works, house)
    check_task(works, task)
    kind, fuel = task
    # Rules speak of steps, not of houses: so one row for each kind serves whichever house begins.
    rows = [spread(works, (), []) for _ in works.rules]
    for _ in range(fuel):
        rows = [spread(works, rule, rows) for rule in works.rules]
    return tuple([rows[kind][(to - house) % works.many] for to in range(works.many)])


def spread(works, rule, below):
    """Tell by steps how many tasks come of one with this rule, itself too; below tells it of what it sends."""
    counts = [0] * works.many
    counts[0] = 1
    for step, kind in rule:
        for further, many in enumerate(below[kind]):
            counts[(step + further) % works.many] += many
    return counts


def many_tasks(works, task):
    """Tell how many tasks are done if this one is, and all that come of it."""
    check_task(works, task)
    kind, fuel = task
    return many_by_fuel(works)[fuel][kind]


def many_by_fuel(works):
    """Tell for each fuel, for each kind, how many tasks come of such a task, itself too."""
    rows = [[1 for _ in works.rules]]
    for _ in range(MOST_FUEL):
        below = rows[-1]
        rows.append([1 + sum([below[pair[1]] for pair in rule]) for rule in works.rules])
    return rows


def many_of_all(works, tasks):
    """Tell how many tasks are done if all of these are, and all that come of them."""
    rows = many_by_fuel(works)
    return sum([rows[fuel][kind] for kind, fuel in tasks])


def longest_way(works, task):
    """Tell the most tasks of which each but the first comes of the one ahead, this one being the first."""
    check_task(works, task)
    kind, fuel = task
    lengths = [1 for _ in works.rules]
    for _ in range(fuel):
        lengths = [1 + max([lengths[pair[1]] for pair in rule], default=0) for rule in works.rules]
    return lengths[kind]


def is_standing(works, thing):
    """Whether a thing is a pair of the bags of all houses and the ways on which letters are."""
    return is_tuple_of(2, thing) and are_bags(works, thing[0]) and are_ways(works, thing[1])


def are_bags(works, thing):
    """Whether a thing is a tuple with a tuple of tasks for each house."""
    return is_tuple_of(works.many, thing) and all([are_tasks(works, bag) for bag in thing])


def are_ways(works, thing):
    """Whether a thing is an ascending tuple of the ways on which tasks are."""
    return are_full_ways(works.many, thing) and all([are_tasks(works, way[2]) for way in thing])


def first_standing(works, given):
    """Tell the standing in which house 0 has the tasks given, and nothing is on its way."""
    check_given(works, given)
    return ((given,) + ((),) * (works.many - 1), ())


def done_by(works, standing, house):
    """Tell the standing behind this one if a house does the first task that it has."""
    check_standing(works, standing)
    check_house(works, house)
    bags, ways = standing
    if len(bags[house]) == 0:
        raise NothingThere()
    letters = by_pairs(ways)
    for to, sent in sent_by(works, house, bags[house][0]):
        send(letters, house, to, sent)
    return (with_item(bags, house, bags[house][1:]), ways_of(letters))


def heard_by(works, standing, house, sender):
    """Tell the standing behind this one if a house hears the first letter on its way from a sender."""
    check_standing(works, standing)
    check_house(works, house)
    check_house(works, sender)
    bags, ways = standing
    letters = by_pairs(ways)
    tasks = letters.get((sender, house), ())
    if len(tasks) == 0:
        raise NothingThere()
    letters[(sender, house)] = tasks[1:]
    return (with_item(bags, house, bags[house] + tasks[:1]), ways_of(letters))


def is_quiet(works, standing):
    """Whether nobody has anything to do, and nothing is on its way."""
    check_standing(works, standing)
    bags, ways = standing
    return len(ways) == 0 and all([len(bag) == 0 for bag in bags])


def still_to_do(works, standing):
    """Tell how many tasks are to be done, or come of them, still."""
    check_standing(works, standing)
    bags, ways = standing
    tasks = [task for bag in bags for task in bag] + [task for way in ways for task in way[2]]
    return many_of_all(works, tasks)


def plain_run(works, given):
    """Tell the pairs (house, task) done, always by the least house that has some, all letters heard at once."""
    check_given(works, given)
    if many_of_all(works, given) > MOST_DONE:
        raise TooMany(MOST_DONE)
    bags = [[] for _ in range(works.many)]
    bags[0].extend(given)
    pairs = []
    house = least_busy(bags)
    while house is not None:
        task = bags[house].pop(0)
        pairs.append((house, task))
        for to, sent in sent_by(works, house, task):
            bags[to].append(sent)
        house = least_busy(bags)
    return pairs


def least_busy(bags):
    """Tell the least house that has something to do, or None."""
    for house, bag in enumerate(bags):
        if len(bag) > 0:
            return house
    return None
