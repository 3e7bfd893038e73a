"""Stories in which recipes lose or mix up a value, and all that can be left when the power fails."""

from keepbefore.chances import all_kept, all_values, contents_behind
from keepbefore.checks import check_blocks, check_slots, is_number_from
from keepbefore.errors import InvalidCount, InvalidKept, InvalidStory, InvalidWord, PowerFailed
from keepbefore.pairs import MOST_STEPS_AHEAD, Pair
from keepbefore.records import values_after_restart
from keepbefore.requests import carry_out, check_requests
from keepbefore.rules import MOST_BOUND, RECIPE_WORDS, SYNC_STEPS, Recipes, Rules

WRITE_TASKS = ("through", "back", "around")
ALL_TASKS = ("around", "back", "clean", "drop", "through")
MOST_TASKS = 4
MOST_TASKS_SEARCHED = 3
MOST_OUTCOME_BLOCKS = 3
MOST_OUTCOME_SLOTS = 3
MOST_OUTCOME_REQUESTS = 3


class WatchedPair(Pair):
    """A pair that notes, ahead of each step, what its disks have and whether a write is done."""

    def __init__(self, blocks, slots, rules, recipes):
        super().__init__(blocks, slots, rules, recipes=recipes)
        self.moments = []

    def note_moment(self):
        self.moments.append((self.lasting, self.pending, self._is_done))

    def _begin_step(self):
        self.note_moment()
        super()._begin_step()


def tell(recipes, story):
    """The value that is read at the end of a story."""
    return _walk(recipes, story)[0]


def is_bad(recipes, story):
    """Whether the value that is read at the end of a story is wrong."""
    value, right = _walk(recipes, story)
    return value not in right


def first_story(recipes, most):
    """The first bad story of at most so many tasks, or None."""
    if not is_number_from(most, 0, MOST_TASKS_SEARCHED):
        raise InvalidCount(f"a greatest number of tasks is from 0 to {MOST_TASKS_SEARCHED}")
    all_tasks = [()]
    for _ in range(most):
        all_tasks = [(*ahead, word) for ahead in all_tasks for word in ALL_TASKS]
        for tasks in all_tasks:
            story = _first_with(recipes, tasks)
            if story is not None:
                return story
    return None


def lean(recipes, word, most):
    """The recipes, one of them without each sync that it can do without: no bad story of so many tasks comes."""
    if word not in RECIPE_WORDS:
        raise InvalidWord("not the word of a recipe")
    if not is_number_from(most, 0, MOST_TASKS_SEARCHED):
        raise InvalidCount(f"a greatest number of tasks is from 0 to {MOST_TASKS_SEARCHED}")
    part = RECIPE_WORDS.index(word)
    parts = [recipes.through, recipes.back, recipes.around, recipes.clean]
    steps = parts[part]
    # Backwards, so that what was left out already does not move the places to come.
    for place in reversed(range(len(steps))):
        if steps[place] in SYNC_STEPS:
            shorter = list(parts)
            shorter[part] = parts[part][:place] + parts[part][place + 1:]
            if first_story(_recipes_of(shorter), most) is None:
                parts = shorter
    return _recipes_of(parts)


def outcomes(blocks, slots, rules, recipes, requests):
    """All values of the blocks that there can be if the power fails anywhere in or behind these requests."""
    check_blocks(blocks, MOST_OUTCOME_BLOCKS)
    check_slots(slots, MOST_OUTCOME_SLOTS)
    check_requests(requests, blocks, MOST_OUTCOME_REQUESTS)
    pair = WatchedPair(blocks, slots, rules, recipes)
    carry_out(pair, requests)
    pair.note_moment()
    found = set()
    for lasting, pending, _ in pair.moments:
        for values in all_values(lasting, pending):
            found.add(values)
    return sorted(found)


# Walking through a story.


def _walk(recipes, story):
    """The value at the end of a story, and the list of those that would be right."""
    if not _is_story(story):
        raise InvalidStory("not a tuple of tasks and a failure")
    tasks, failure = story
    pair = Pair(1, 2, _rules_for("through"), recipes=recipes)
    for many in range(1, len(tasks)):
        _carry_out_last(pair, tasks[:many])
    is_done = True
    if failure is None:
        _carry_out_last(pair, tasks)
    else:
        is_done = _fail_in_last(pair, tasks, failure)
    return (pair.read(0), _right_values(tasks, is_done))


def _is_story(story):
    if not isinstance(story, tuple) or len(story) != 2:
        return False
    tasks, failure = story
    if not isinstance(tasks, tuple) or not 1 <= len(tasks) <= MOST_TASKS:
        return False
    if any([task not in ALL_TASKS for task in tasks]):
        return False
    if failure is None:
        return True
    return isinstance(failure, tuple) and len(failure) == 3 and is_number_from(failure[0], 0, MOST_STEPS_AHEAD)


def _carry_out_last(pair, tasks):
    """Carries out the last one of these tasks, when those ahead of it are over."""
    task = tasks[-1]
    if task == "clean":
        pair.clean_up(1)
    elif task == "drop":
        pair.forget(0)
    else:
        pair.set_rules(_rules_for(task))
        pair.write(0, _count_writes(tasks))


def _fail_in_last(pair, tasks, failure):
    """Carries out the last task with a failure, and restarts the pair; returns whether the task was done."""
    steps, slow_kept, fast_kept = failure
    is_done = True
    steps_ahead = _count_steps(pair)
    pair.fail_at(steps)
    try:
        _carry_out_last(pair, tasks)
        if _count_steps(pair) - steps_ahead < steps:
            raise InvalidStory("the last task has fewer steps")
        pair.cut()
    except PowerFailed as failed:
        is_done = failed.is_done
    try:
        pair.restart(slow_kept, fast_kept)
    except InvalidKept:
        raise InvalidStory("not the numbers of pending writes") from None
    return is_done


def _count_steps(pair):
    _, slow_writes, slow_syncs, _, fast_writes, fast_syncs = pair.counts
    return slow_writes + slow_syncs + fast_writes + fast_syncs


def _right_values(tasks, is_done):
    """The values that are right behind these tasks if the last one is done, or was interrupted."""
    writes = _count_writes(tasks)
    if tasks[-1] in WRITE_TASKS and not is_done:
        return [writes - 1, writes]
    return [writes]


def _count_writes(tasks):
    return len([task for task in tasks if task in WRITE_TASKS])


def _rules_for(task):
    return Rules(task, "pass", "used", MOST_BOUND)


def _recipes_of(parts):
    through, back, around, clean = parts
    return Recipes(through, back, around, clean)


# Looking for a bad story.


def _first_with(recipes, tasks):
    """The first bad story with these tasks, or None."""
    pair = WatchedPair(1, 2, _rules_for("through"), recipes)
    for many in range(1, len(tasks)):
        _carry_out_last(pair, tasks[:many])
    ahead = len(pair.moments)
    _carry_out_last(pair, tasks)
    if pair.block_values[0] not in _right_values(tasks, True):
        return (tasks, None)
    pair.note_moment()
    moments = pair.moments[ahead:]
    for steps, (lasting, pending, is_done) in enumerate(moments):
        is_over = steps == len(moments) - 1
        right = _right_values(tasks, is_done or is_over)
        if any([values[0] not in right for values in all_values(lasting, pending)]):
            slow_kept, fast_kept = _first_kept(lasting, pending, right)
            return (tasks, (steps, slow_kept, fast_kept))
    return None


def _first_kept(lasting, pending, right):
    """The first parts kept of both disks with which the value is wrong, or None."""
    all_fast_kept = all_kept(len(pending[1]))
    for slow_kept in all_kept(len(pending[0])):
        slow = contents_behind(lasting[0], pending[0], slow_kept)
        for fast_kept in all_fast_kept:
            fast = contents_behind(lasting[1], pending[1], fast_kept)
            if values_after_restart(slow, fast)[0] not in right:
                return (slow_kept, fast_kept)
    return None
