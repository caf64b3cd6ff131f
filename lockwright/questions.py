"""Questions: what somebody wishes for, and what is locked; their texts."""

from lockwright.errors import BadLine, BadQuestion
from lockwright.lines import lines_of, place_text, target_text, text_of, told_place, told_target
from lockwright.ranges import is_range, is_version
from lockwright.shapes import is_name, is_names, is_tuple_of, is_tuple_within, is_wanted

WISHES_MOST = 8
LOCKS_MOST = 40


def is_wish(thing):
    """Whether a thing is a triple of a package, a range, and the features wanted."""
    return is_tuple_of(3, thing) and is_name(thing[0]) and is_range(thing[1]) and is_wanted(thing[2])


def is_locks(thing):
    """Whether a thing is what a question may have as its locks."""
    if not is_tuple_within(LOCKS_MOST, thing):
        return False
    for lock in thing:
        if not is_tuple_of(2, lock) or not is_version(lock[1]):
            return False
    return is_names(tuple([lock[0] for lock in thing]))


def wrong_part(wishes, locks):
    """The first part that is none of a question, None if both are."""
    if not is_tuple_within(WISHES_MOST, wishes):
        return "wishes"
    for at, wish in enumerate(wishes):
        if not is_wish(wish):
            return ("wish", at)
    if not is_locks(locks):
        return "locks"
    return None


class Question:
    """Wishes, and locks."""

    def __init__(self, wishes, locks):
        part = wrong_part(wishes, locks)
        if part is not None:
            raise BadQuestion(part)
        self.wishes = wishes
        self.locks = locks

    def __eq__(self, other):
        return isinstance(other, Question) and self.wishes == other.wishes and self.locks == other.locks


def question_text(question):
    """A question as a text that read_question reads."""
    lines = [f"wish {target_text(name, rng, wanted)}" for name, rng, wanted in question.wishes]
    for name, version in question.locks:
        lines.append(f"lock {place_text(name, version)}")
    return text_of(lines)


def take_wish(wish, wishes, locks):
    """Adds a wish, ahead of all locks, and tells whether it may stand here."""
    if wish is None or locks or len(wishes) == WISHES_MOST:
        return False
    wishes.append(wish)
    return True


def take_lock(lock, locks):
    """Adds a lock, and tells whether it may stand here."""
    if lock is None or len(locks) == LOCKS_MOST or (locks and lock[0] <= locks[-1][0]):
        return False
    locks.append(lock)
    return True


def take_line(line, wishes, locks):
    """Reads one more line, and tells whether it may stand here."""
    if line.startswith("wish "):
        return take_wish(told_target(line.removeprefix("wish ")), wishes, locks)
    if line.startswith("lock "):
        return take_lock(told_place(line.removeprefix("lock ")), locks)
    return False


def read_question(text):
    """The question of a text: BadLine."""
    lines, rest = lines_of(text)
    wishes = []
    locks = []
    for at, line in enumerate(lines):
        if not take_line(line, wishes, locks):
            raise BadLine(at + 1)
    if rest != "":
        raise BadLine(len(lines) + 1)
    return Question(tuple(wishes), tuple(locks))
