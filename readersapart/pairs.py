"""Two readers, judged for all texts, and how many texts of a length they take."""

from readersapart.checks import check_length
from readersapart.readers import check_reader
from readersapart.walks import all_go_on, all_take, are_unlike, least_text, some_go_on, tally


def alone(one, other):
    """The shortest text, of these the least, that just the one reader takes; None if there is none."""
    _check_pair(one, other)
    return least_text((one, other), _first_goes_on, _just_first_takes)


def two_numbers(one, other):
    """The shortest text, of these the least, that means two numbers; None if there is none."""
    _check_pair(one, other)
    return least_text((one, other), all_go_on, _mean_two)


def same(one, other):
    """Whether both readers take the same texts, each as the same number."""
    _check_pair(one, other)
    return least_text((one, other), some_go_on, are_unlike) is None


def count(reader, length):
    """How many texts of a length the reader takes."""
    check_reader(reader)
    check_length(length)
    found = tally((reader,), length, all_go_on)
    return sum([found[marks] for marks in found if all_take(marks)])


def count_both(one, other, length):
    """How many texts of a length both readers take, and how many of these mean two numbers."""
    _check_pair(one, other)
    check_length(length)
    found = tally((one, other), length, all_go_on)
    both = sum([found[marks] for marks in found if all_take(marks)])
    return (both, sum([found[marks] for marks in found if _mean_two(marks)]))


def _check_pair(one, other):
    check_reader(one)
    check_reader(other)


def _first_goes_on(stands):
    return stands[0] is not None


def _just_first_takes(marks):
    return marks[0] is not None and marks[1] is None


def _mean_two(marks):
    return all_take(marks) and are_unlike(marks)
